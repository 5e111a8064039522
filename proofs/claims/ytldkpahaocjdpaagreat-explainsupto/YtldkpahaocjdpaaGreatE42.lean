/-
  The reference's Model.
-/
import Derived.Test.YtldkpahaocjdpaaGreatE41
import Derived.Deep.Upon
set_option maxHeartbeats 16000000
set_option maxRecDepth 1000000
namespace Go.Proofs.YtldkpahaocjdpaaGreat
section
open Go.RowKit
noncomputable def z3r (k:Nat):Code:=((Tryz.f138.body.map zdo).getD []).getD k .skip
structure z53 (w:W8)(o:Nat)(rs:List RR)(ps:P9)(rv pv tv:Value)(gs:Nat)(S:Nat->Nat):Prop where
 prog:znv w o rs ps rv pv tv (.slice (some ⟨gs,0,none⟩) ps.length ps.length)
 og:ng w gs ps.length S
 body:∀ r∈rs,r.bs.length<=3
 atoms:∀ r∈rs,∀ a∈r.R.head::r.R.body,zns a
 Ny:∀ r∈rs,0<=zM ps r.R.head.pred
structure xz (w:W8)(v:Value)(fs:List FG)(wr:W8):Prop where
 below:Below w.heap.size w wr
 facts:yZ wr w.heap.size v fs
 ok:∀ f∈fs.map (·.F),zc5 f
variable {w:W8}
theorem xz.ctx {o:Nat}{rs:List RR}{ps:P9}{rv pv tv:Value}{gs:Nat}{S:Nat->Nat}{v:Value}{fs:List FG}{wr:W8}(h:xz w v fs wr)(hC:z53 w o rs ps rv pv tv gs S)(hf:fs.length<=50):yea wr o rs ps rv pv tv gs S w.heap.size fs v:=
 ⟨hC.prog.kept ((zK.refl [] _).ak h.below) (by simp),hC.og.kept ((zK.refl [] _).ak h.below),h.facts,hf,hC.body,λ r hr a ha=>(hC.atoms r hr a ha).eJ,hC.Ny,λ r hr x hx a ha=>ybp (zxo h.ok _ x hx) (hC.atoms r hr a ha)⟩
variable {base:Nat}
theorem z1p {out:List FG}(h:∀ x∈out,qZ w base x):∀ u∈out.flatMap FG.cells,u.oneCell'=true:=by
 intro u hu;obtain⟨x,hx,hu⟩:=List.mem_flatMap.1 hu;obtain⟨a1,a2,a3,a4,e1,e2⟩:=(h x hx).shape;simp only[FG.cells,e1,e2,List.mem_cons,List.not_mem_nil,or_false] at hu;rcases hu with rfl | rfl | rfl | rfl | rfl | rfl | rfl | rfl | rfl | rfl <;> rfl
variable {xs:V8} {size n cap:Nat} {e:TypeId}
theorem zsp {g:Nat}(h:w.ownsRow base e size (.slice (some ⟨g,0,none⟩) n cap) n xs):∀ j u,xs[j]?=some u->w.cell? ((⟨g,0,none⟩:Addr).add j)=some u:=by
 intro j u hj;have hl:xs.length=n*size:=h.1;have aH:j<xs.length:=(List.getElem?_eq_some_iff.1 hj).1;rcases h.2 with⟨h1,_⟩ | ⟨g',dn,cur,hv,hb,hg,bO,bQ,ij,ht⟩
 ·cases h1
 ·injection hv with h1 h2 h3
  injection h1 with h1
  injection h1 with h1
  subst h1;have:=h.cellAt j (by omega);unfold Addr.add
  split <;> simp_all
theorem zdh {P:Program}{ops:Array Oper}{rest:List Oper}{o:Oper}{a:Act}{Q:Exit->Act->W8->Prop}(Io:o.guard=none)(s x:Operand)(t:TypeId)(ho:o.op=.call { callee:=.builtin .append,args:=#[s,x],argTypes:=#[t,t] })(v xv:Value)(hs:a.eval s=v)(hx:a.eval x=xv)(hr:∀ ty,(Builtin.append_ #[t,t] ty #[v,xv]).run P w=.ok v w)(h:wpList P ops Q rest (a.put o.dst v) w):wpList P ops Q (o::rest) a w:=
 wpList_plain Io λ _ hK=>by
  unfold Oper.wp execOp;simp only[ho,resolve,invoke,builtin,Sem.run_bind,Sem.run_pure,Result.andThen_ok,List.map_toArray,List.map_cons,List.map_nil,hs,hx,hr];exact hK _ _ h
theorem z6m (w:W8)(b:O8)(n c:Nat)(h:n<=c)(a:O8)(c':Nat)(ty:TypeId):(Builtin.append_ #[250,250] ty #[.slice b n c,.slice a 0 c']).run Tryz.prog w=.ok (.slice b n c) w:=by
 obtain⟨i0,Af,bL,aY,bg⟩:=info_parts zpg;refine run_append_nothing w _ _ _ 262 i0 Tryz.underlying250 Af b n c h _ ?_
 cases a with
 | none=>exact Src.ofNil w Tryz.underlying250 c'
 | some a=>exact Src.ofSlice w Tryz.underlying250 a 0 c' [] (by simp) (by simp) (by simp)
theorem ybt {a:O8}(h:w.ownsRow base e size (.slice a n cap) n xs):n<=cap:=by
 rcases h.2 with⟨h1,h0⟩ | ⟨g',dn,cur,hv,hb,hg,bO,bQ,ij,ht⟩
 ·omega
 ·injection hv with h1 h2 h3
  omega
theorem ydn (w:W8)(o:Nat)(rs:List RR)(ps:P9)(rv pv tv:Value)(gs:Nat)(S:Nat->Nat)(hC:z53 w o rs ps rv pv tv gs S)(limit s:Nat)(hlim:limit<=50)(v6:Value)(fs:List FG)(ko:fs.length<=limit)(w1:W8)(hI:xz w v6 fs w1)
  {Q:Exit->Act->W8->Prop} {c2 c3 c7 c8 gy gV ie fO ig gW fD eG eL eM eN eO eQ eR eS eT eU eV eW fg fh fk fl fm fI fJ fK fP fQ fR fU fV fW dU fX fY fZ gd gh gi gP gQ fE:Value}
  (aT:∀ (DM:Value) (fi:List FG) (w2:W8) (rq rr ru tR tS tT ry rz rA rB rD rE rF rG rH rI rJ rK rL nM nN:Value),xz w DM fi w2->fi.length<=limit->zbr ps S (rs.map (·.R)) limit s 1 (fs.map (·.F)) (some (fi.map (·.F)))->Q (.exit 4) ⟨List.toArray (.pointer (some ⟨o,0,none⟩)::.int .i64 limit::c2::c3::.slice none 0 0::.bool false::DM::c7::c8::.int .i64 s::rq::rr::ru::gV::ie::fO::ig::gW::fD::eG::eL::eM::eN::eO::eQ::eR::eS::eT::eU::eV::eW::fg::fh::fk::fl::fm::tR::tS::tT::ry::rz::rA::rB::rD::rE::rF::rG::rH::rI::rJ::rK::rL::nM::nN::fE::[]),[]⟩ w2)
  (mW:∀ (DM:Value) (w2:W8) (rq rr ru tR tS tT ry rz rA rB rD rE rF rG rH rI rJ rK rL nM nN:Value),Below w.heap.size w w2->zbr ps S (rs.map (·.R)) limit s 1 (fs.map (·.F)) none->Q .ret ⟨List.toArray (.pointer (some ⟨o,0,none⟩)::.int .i64 limit::c2::c3::.slice none 0 0::.bool false::DM::c7::c8::.int .i64 s::rq::rr::ru::gV::ie::fO::ig::gW::fD::eG::eL::eM::eN::eO::eQ::eR::eS::eT::eU::eV::eW::fg::fh::fk::fl::fm::tR::tS::tT::ry::rz::rA::rB::rD::rE::rF::rG::rH::rI::rJ::rK::rL::nM::nN::fE::[]),[]⟩ w2):
  Code.wp Tryz.prog (Code.loop (z3r 2)) Q ⟨List.toArray (.pointer (some ⟨o,0,none⟩)::.int .i64 limit::c2::c3::.slice none 0 0::.bool false::v6::c7::c8::.int .i64 s::.bool true::.int .i64 1::gy::gV::ie::fO::ig::gW::fD::eG::eL::eM::eN::eO::eQ::eR::eS::eT::eU::eV::eW::fg::fh::fk::fl::fm::fI::fJ::fK::fP::fQ::fR::fU::fV::fW::dU::fX::fY::fZ::gd::gh::gi::gP::gQ::fE::[]),[]⟩ w1:=by
 conv=>arg 2;arg 1;whnf
 have HC:=zC hC;have HI:=zC hI;have HX:=zC aT;have HY:=zC mW;clear hC hI aT mW;obtain⟨i0,Af,bL,aY,bg⟩:=info_parts zpg
 go_loopg [4,5,6,10,11] (2*(51-fs.length)+1) (λ gg v4 v5 v mo nn wr=>v4=.slice none 0 0/\v5=.bool false/\∃ (n:Nat) (more:Bool) (fi:List FG),nn=.int .i64 n/\mo=.bool more/\fi.length<=limit/\n<=fi.length+2/\(more=true->n<=fi.length+1)/\gg=2*(51-fi.length)+(if more then 1 else 0)/\xz w v fi wr/\(more=true->∀ r,zbr ps S (rs.map (·.R)) limit s n (fi.map (·.F)) r->zbr ps S (rs.map (·.R)) limit s 1 (fs.map (·.F)) r)/\(more=false->zbr ps S (rs.map (·.R)) limit s 1 (fs.map (·.F)) (some (fi.map (·.F)))))
 exact⟨rfl,rfl,1,true,fs,rfl,rfl,ko,by omega,λ _=>by omega,rfl,zA HI,λ _ r h=>h,λ h=>by cases h⟩
 case round=>
  clear HI;obtain⟨rfl,rfl,n,more,fi,rfl,rfl,vb,hn,ia,bS,hI,Iu,aX⟩:=hrel;obtain⟨a6,c6,rfl⟩:=zD hI.facts.row;have HI:=zC hI
  cases more with
  | false=>
   have HE:=zC (aX rfl);clear hI Iu aX bS ia;go_wp2_with fail;apply zA HX
   ·exact zA HI
   ·exact vb
   ·exact zA HE
  | true=>
   have BZ:=zC (Iu rfl);have Qy:=ia rfl;have gZ:=z4v wr o rs ps rv pv tv gs S w.heap.size fi a6 c6 (hI.ctx (zA HC) (by omega)) s n;have cJ:=zC gZ;clear hI Iu aX gZ ia hn;simp only[if_true] at bS;go_wp2_with fail;refine (zA cJ).mono ?_;rintro e w2 ⟨v12,out,rfl,hR⟩;have hrel:=hR.rel;have oP:=(zA HI).facts.below hR.below;have dp:=(zA HI).below.trans (hR.below.mono (zA HI).below.size);have QY:=(zA HI).below.size
   have bR:=hrel.ok (zA HI).ok (λ R hR a ha=>by
    obtain⟨r,hr,rfl⟩:=List.mem_map.1 hR
    exact (zA HC).atoms r hr a ha)
   have Nj:∀ x∈out,qZ w2 w.heap.size x:=λ x hx=>(hR.facts.each x hx).low QY
   obtain⟨a12,gy,rfl⟩:=zD hR.facts.row;have kN:=hR.eJ
   cases out with
   | nil=>
    have HD:=zC (zA BZ _ (zbr.done hrel (by simpa using vb)));have eA:=zC (show xz w (.slice a6 fi.length c6) fi w2 from ⟨dp,oP,(zA HI).ok⟩);have PM:=ybt (zA HI).facts.row;have mx:¬ ((limit:Int)<fi.length):=(by omega);clear hR hrel oP dp bR Nj BZ cJ HI kN;have qk:=zC (z6m w2 a6 fi.length c6 PM a12 gy);go_wp2_with (at_builtin;go_must (refine zdh rfl _ _ _ rfl _ _ rfl rfl (zA qk) ?_));go_roundg (2*(51-fi.length));exact⟨rfl,rfl,n+1,false,fi,by go_num,rfl,vb,by omega,(λ h=>by cases h),by simp,zA eA,(λ h=>by cases h),λ _=>zA HD⟩;omega
   | cons x0 out0=>
    generalize hO:x0::out0=out at *;have aJ:0<out.length:=(by rw[<-hO];simp);have bF:out.map (·.F)≠[]:=(by rw[<-hO];simp);obtain⟨g12,ZC,Q6,-,-,-,-,-⟩:=zb1 hR.facts.row (k:=0) aJ;injection Q6 with q1 q2 q3
    subst q1 q3;have dt:=zC (zsp hR.facts.row);have kT:=zC (z1p Nj);have hlen:(out.flatMap FG.cells).length=out.length*10:=hR.facts.row.1;have pR:=zC hlen
    have dO:=λ (w5:W8) (v':Value) (hg:w2.grownBy w5 (Value.slice a6 fi.length c6).ownBlock) (ay:w5.ownsRow w.heap.size 262 10 v' (fi.length+out.length) (fi.flatMap FG.cells++out.flatMap FG.cells))=>(show xz w v' (fi++out) w5 from ⟨zY dp (zK.aR hg) (dp.size) (λ b hm=>(oP.row.lt b (by simpa using hm)).1),oP.app Nj (zK.refl [] _) hg ay,λ f hf=>by
     rw[List.map_append] at hf;rcases List.mem_append.1 hf with hf | hf
     ·exact (zA HI).ok f hf
     ·exact bR f hf⟩)
    have mC:=zC dO;have gC:=zC oP.row;have sE:=zC hrel;have Ly:=dp.size;have IZ:=zC dp;have Wk:=zC bF;clear hR hrel oP dp bR Nj cJ HI dO hlen hO bF
    by_cases hbig:limit<fi.length+out.length
    ·have PH:(limit:Int)<(fi.length:Int)+out.length:=(by omega);have HT:=zC (zA BZ _ (zbr.fG (zA sE) (by simpa using hbig)));go_wp2_with (at_builtin;go_must (refine wpList_append_lies _ rfl _ _ _ rfl w.heap.size 262 i0 (.agg #[.string { data:=#[] },.slice none 0 0,.bool false,.int .i64 0,.int .i64 0,.string { data:=#[] },.int .i64 0,.int .i64 0,.int .i64 0,.slice none 0 0]) 10 128 Tryz.underlying250 Af bL aY bg rfl (by decide) (.slice a6 fi.length c6) fi.length _ rfl (zA gC) ⟨g12,0,none⟩ out.length gy (out.flatMap FG.cells) rfl (zA pR) (zA dt) (zA kT) aJ (by unfold maxLen;omega) (by omega) Ly _ rfl ?_;intro g cap w5 aq aU bW hlt5));have HM:=zC (zA mC w5 _ aU aq);clear aq aU mC gC;go_wp2_with fail;apply zA HY
     ·exact (zA HM).below
     ·exact zA HT
    ·have PH:¬ ((limit:Int)<(fi.length:Int)+out.length):=(by omega);have HT:=zC (λ r (h:zbr ps S (rs.map (·.R)) limit s (n+1) ((fi++out).map (·.F)) r)=>zA BZ r (zbr.more (zA sE) (zA Wk) (by simpa using hbig) (by rw[List.map_append] at h;exact h)));go_wp2_with (at_builtin;go_must (refine wpList_append_lies _ rfl _ _ _ rfl w.heap.size 262 i0 (.agg #[.string { data:=#[] },.slice none 0 0,.bool false,.int .i64 0,.int .i64 0,.string { data:=#[] },.int .i64 0,.int .i64 0,.int .i64 0,.slice none 0 0]) 10 128 Tryz.underlying250 Af bL aY bg rfl (by decide) (.slice a6 fi.length c6) fi.length _ rfl (zA gC) ⟨g12,0,none⟩ out.length gy (out.flatMap FG.cells) rfl (zA pR) (zA dt) (zA kT) aJ (by unfold maxLen;omega) (by omega) Ly _ rfl ?_;intro g cap w5 aq aU bW hlt5));have HM:=zC (zA mC w5 _ aU aq);clear aq aU mC gC;have QK:(0:Int)<out.length:=(by omega);go_wp2_with fail;go_roundg (2*(51-(fi++out).length)+1);exact⟨rfl,rfl,n+1,true,fi++out,by go_num,rfl,by simp;omega,by simp;omega,(λ _=>by simp;omega),by simp,zA HM,(λ _=>zA HT),λ h=>by cases h⟩;simp;omega
end
section
open Go.RowKit
def lQ (S:Nat->Nat):Nat->Nat
 | 0=>0
 | n+1=>max (lQ S n) (S n)
theorem zpr {S:Nat->Nat}{m:Nat}:∀ (n:Nat),(∀ i,i<n->S i<=m)->lQ S n<=m
 | 0,_=>Nat.zero_le _
 | n+1,h=>Nat.max_le.2 ⟨zpr n (λ i hi=>h i (by omega)),h n (by omega)⟩
theorem ydm (w:W8)(o:Nat)(rs:List RR)(ps:P9)(rv pv tv:Value)(gs:Nat)(S:Nat->Nat)(hC:z53 w o rs ps rv pv tv gs S)(limit di:Nat)(hlim:limit<=50)(Aw:di<=1000000)(w1:W8)(hI:xz w (.slice none 0 0) [] w1)
  {Q:Exit->Act->W8->Prop} {c2 c3 c8 gD ll gy gV ie fO ig gW fD eG eL eM eN eO eQ eR eS eT eU eV eW fg fh fk fl fm fI fJ fK fP fQ fR fU fV fW dU fX fY fZ gd gh gi gP gQ fE:Value}
  (aT:∀ (DM:Value) (fi:List FG) (w2:W8) (u9 rq rr ru DL u32 Bm Bn Bo tR tS tT ry rz rA rB rD rE rF rG rH rI rJ rK rL nM nN:Value),xz w DM fi w2->fi.length<=limit->zka ps S (rs.map (·.R)) limit di 0 [] (some (fi.map (·.F)))->Q (.exit 2) ⟨List.toArray (.pointer (some ⟨o,0,none⟩)::.int .i64 limit::c2::c3::.slice none 0 0::.bool false::DM::.int .i64 di::c8::u9::rq::rr::ru::gV::ie::fO::ig::gW::fD::eG::eL::eM::eN::eO::eQ::eR::eS::eT::eU::eV::eW::DL::u32::Bm::Bn::Bo::tR::tS::tT::ry::rz::rA::rB::rD::rE::rF::rG::rH::rI::rJ::rK::rL::nM::nN::fE::[]),[]⟩ w2)
  (mW:∀ (DM:Value) (w2:W8) (u9 rq rr ru DL u32 Bm Bn Bo tR tS tT ry rz rA rB rD rE rF rG rH rI rJ rK rL nM nN:Value),Below w.heap.size w w2->zka ps S (rs.map (·.R)) limit di 0 [] none->Q .ret ⟨List.toArray (.pointer (some ⟨o,0,none⟩)::.int .i64 limit::c2::c3::.slice none 0 0::.bool false::DM::.int .i64 di::c8::u9::rq::rr::ru::gV::ie::fO::ig::gW::fD::eG::eL::eM::eN::eO::eQ::eR::eS::eT::eU::eV::eW::DL::u32::Bm::Bn::Bo::tR::tS::tT::ry::rz::rA::rB::rD::rE::rF::rG::rH::rI::rJ::rK::rL::nM::nN::fE::[]),[]⟩ w2):
  Code.wp Tryz.prog (Code.loop (z3r 1)) Q ⟨List.toArray (.pointer (some ⟨o,0,none⟩)::.int .i64 limit::c2::c3::.slice none 0 0::.bool false::.slice none 0 0::.int .i64 di::c8::.int .i64 0::gD::ll::gy::gV::ie::fO::ig::gW::fD::eG::eL::eM::eN::eO::eQ::eR::eS::eT::eU::eV::eW::fg::fh::fk::fl::fm::fI::fJ::fK::fP::fQ::fR::fU::fV::fW::dU::fX::fY::fZ::gd::gh::gi::gP::gQ::fE::[]),[]⟩ w1:=by
 conv=>arg 2;arg 1;whnf
 have HC:=zC hC;have HI:=zC hI;have HX:=zC aT;have HY:=zC mW;clear hC hI aT mW
 go_loopg [4,5,6,9] (di+1) (λ gg v4 v5 v ss wr=>v4=.slice none 0 0/\v5=.bool false/\∃ (s:Nat) (fi:List FG),ss=.int .i64 s/\s<=di+1/\gg=di+1-s/\fi.length<=limit/\xz w v fi wr/\(∀ r,zka ps S (rs.map (·.R)) limit di s (fi.map (·.F)) r->zka ps S (rs.map (·.R)) limit di 0 [] r))
 exact⟨rfl,rfl,0,[],rfl,by omega,by omega,by simp,zA HI,λ r h=>h⟩
 case round=>
  clear HI;obtain⟨rfl,rfl,s,fi,rfl,hs,bS,vb,hI,Iu⟩:=hrel;obtain⟨a6,c6,rfl⟩:=zD hI.facts.row;have HI:=zC hI;have BZ:=zC Iu;clear hI Iu
  by_cases bM:s<=di
  ·have Ur:(s:Int)<=di:=(by omega);go_wp2_with fail;refine ydn w o rs ps rv pv tv gs S (zA HC) limit s hlim _ fi vb wr (zA HI) ?_ ?_
   ·intro v2 S3 w2;intros;rename_i dG lh SS;obtain⟨a2,c2,rfl⟩:=zD dG.facts.row;have eA:=zC dG;have mG:=zC (λ r (h:zka ps S (rs.map (·.R)) limit di (s+1) (S3.map (·.F)) r)=>zA BZ r (zka.next bM SS h));clear dG SS HI BZ;go_wp2_with fail;go_roundg (di+1-(s+1));exact⟨rfl,rfl,s+1,S3,by go_num,by omega,rfl,lh,zA eA,zA mG⟩;omega
   ·intro v2 w2;intros;rename_i lu SS;have ir:=zC lu;have mG:=zC (zA BZ _ (zka.gX bM SS));clear lu SS HI BZ;apply zA HY
    ·exact zA ir
    ·exact zA mG
  ·have Ur:¬ ((s:Int)<=di):=(by omega);have HE:=zC (zA BZ _ (zka.ends (by omega)));go_wp2_with fail;apply zA HX
   ·exact zA HI
   ·exact vb
   ·exact zA HE
theorem ydl (w:W8)(o:Nat)(rs:List RR)(ps:P9)(rv pv tv:Value)(gs:Nat)(S:Nat->Nat)(hC:z53 w o rs ps rv pv tv gs S)(hS:∀ i,i<ps.length->S i<=1000000)
  {Q:Exit->Act->W8->Prop} {c1 c2 c3 c4 c5 c6 c9 gD ll gy gV ie fO ig gW fD eG eL eM eN eO eQ eR eS eT eU eV eW fg fh fk fl fm fI fJ fK fP fQ fR fU fV fW dU fX fY fZ gd gh gi gP gQ fE:Value}
  (aT:∀ (w2:W8) (u8 DJ Bj Bk u16 Bl DK Mb G3 G4 G5 G6 G7 G8 G9 Ha Hb Hc Hd:Value),Below w.heap.size w w2->Q (.exit 0) ⟨List.toArray (.pointer (some ⟨o,0,none⟩)::c1::c2::c3::c4::c5::c6::.int .i64 (lQ S ps.length)::u8::c9::gD::ll::gy::DJ::Bj::Bk::u16::Bl::DK::Mb::G3::G4::G5::G6::G7::G8::G9::Ha::Hb::Hc::Hd::fg::fh::fk::fl::fm::fI::fJ::fK::fP::fQ::fR::fU::fV::fW::dU::fX::fY::fZ::gd::gh::gi::gP::gQ::fE::[]),[]⟩ w2):
  Code.wp Tryz.prog (Code.loop (z3r 0)) Q ⟨List.toArray (.pointer (some ⟨o,0,none⟩)::c1::c2::c3::c4::c5::c6::.int .i64 0::.int .i64 0::c9::gD::ll::gy::gV::ie::fO::ig::gW::fD::eG::eL::eM::eN::eO::eQ::eR::eS::eT::eU::eV::eW::fg::fh::fk::fl::fm::fI::fJ::fK::fP::fQ::fR::fU::fV::fW::dU::fX::fY::fZ::gd::gh::gi::gP::gQ::fE::[]),[]⟩ w:=by
 conv=>arg 2;arg 1;whnf
 have bt:=yU hC.prog.fH;unfold maxLen at bt;have HC:=zC hC;have HX:=zC aT;have HS:=zC hS;clear hC aT hS
 go_loopg [7,8] ps.length (λ gg mm ii wr=>∃ (i:Nat),ii=.int .i64 i/\i<=ps.length/\gg=ps.length-i/\mm=.int .i64 (lQ S i)/\Below w.heap.size w wr)
 exact⟨0,rfl,by omega,by omega,rfl,Below.refl _ _⟩
 case round=>
  obtain⟨i,rfl,hi,bS,rfl,hB⟩:=hrel;have dg:=(zA HC).prog.kept ((zK.refl [] _).ak hB) (by simp);have gS:=(zA HC).og.kept ((zK.refl [] _).ak hB);have c3:=dg.c3;have rY:=dg.lt;have aZ:=gS.sz;have HB:=zC hB
  by_cases kP:i<ps.length
  ·have Cc:(i:Int)<ps.length:=(by omega);have hci:=gS.cell i kP;have dH:=zpr (S:=S) (m:=1000000) i (λ j hj=>zA HS j (by omega));have dD:=zA HS i kP;clear dg gS hB;go_wp2_with fail;go_roundg (ps.length-(i+1));exact⟨i+1,by go_num,by omega,rfl,by rw[lQ];go_num,zA HB⟩;omega
  ·have Cc:¬ ((i:Int)<ps.length):=(by omega);have Yd:i=ps.length:=(by omega);subst Yd;clear dg gS hB;go_wp2_with fail;apply zA HX;exact zA HB
inductive zqw (w:W8)(ps:P9)(S:Nat->Nat)(rs:List zS)(limit:Nat)(w':W8):Value->Value->Prop
 | yes {v:Value} {fs:List FG}:xz w v fs w'->fs.length<=limit->zka ps S rs limit (lQ S ps.length) 0 [] (some (fs.map (·.F)))->zqw w ps S rs limit w' v (.bool true)
 | no:Below w.heap.size w w'->zka ps S rs limit (lQ S ps.length) 0 [] none->zqw w ps S rs limit w' (.slice none 0 0) (.bool false)
def yac (w:W8)(ps:P9)(S:Nat->Nat)(rs:List zS)(limit:Nat)(e:Ending)(w':W8):Prop:=
 ∃ v b,e=.returned (.tuple #[v,b])/\zqw w ps S rs limit w' v b
theorem zr4 (w:W8)(o:Nat)(rs:List RR)(ps:P9)(rv pv tv:Value)(gs:Nat)(S:Nat->Nat)(hC:z53 w o rs ps rv pv tv gs S)(hS:∀ i,i<ps.length->S i<=1000000)(limit:Nat)(hlim:limit<=50):
  Calls Tryz.prog 138 #[.pointer (some ⟨o,0,none⟩),.int .i64 limit] w (yac w ps S (rs.map (·.R)) limit):=by
 have HC:=zC hC;have HS:=zC hS;clear hC hS;go_enter Tryz.func138,Tryz.ntmps138;go_wp2_with fail;refine ydl w o rs ps rv pv tv gs S (zA HC) (zA HS) ?_;intro w1;intros;rename_i gz;have H0:=zC (show xz w (.slice none 0 0) [] w1 from ⟨gz,⟨World.ownsRow_nil _ _ _ _,by simp⟩,by simp⟩);clear gz;have bh:=zpr (S:=S) (m:=1000000) ps.length (zA HS);generalize Aw:lQ S ps.length=di at *;have HM:=zC Aw;clear Aw;go_wp2_with fail;refine ydm w o rs ps rv pv tv gs S (zA HC) limit di hlim bh w1 (zA H0) ?_ ?_
 ·intro v6 fs w2;intros;rename_i hI hl hT;obtain⟨a6,c6,rfl⟩:=zD hI.facts.row;have HF:=zC (show zqw w ps S (rs.map (·.R)) limit w2 (.slice a6 fs.length c6) (.bool true) from .yes hI hl (by rw[zA HM];exact hT));clear hI hl hT H0;go_wp2_with fail
  go_ret2
  exact⟨_,_,rfl,zA HF⟩
 ·intro v6 w2;intros;rename_i hB hT;have HF:=zC (show zqw w ps S (rs.map (·.R)) limit w2 (.slice none 0 0) (.bool false) from .no hB (by rw[zA HM];exact hT));clear hB hT H0
  go_ret2
  exact⟨_,_,rfl,zA HF⟩
end
section
open Go.RowKit
theorem z3g {α:Type}{w:W8}{base:Nat}{e:TypeId}{v:Value}{l:List α}{f:α->Value}(h:w.ownsRow base e 1 v l.length (l.map f))(k:Nat)(hk:k<l.length):∃ g cap,v=.slice (some ⟨g,0,none⟩) l.length cap/\base<=g/\g<w.heap.size/\l.length<=cap/\cap<=maxLen/\w.cell? ⟨g,k,none⟩=some (f l[k]):=by
 have e1:l.map f=l.flatMap λ x=>[f x]:=by
  clear h hk
  induction l with
  | nil=>rfl
  | cons x r ih=>rw[List.map_cons,List.flatMap_cons,ih];rfl
 rw[e1] at h;obtain⟨g,cap,hv,hb,hg,hc,hm,hx⟩:=vX (f:=λ x=>[f x]) (λ _=>rfl) h k hk;have:=hx 0 (by simp);simp only[Nat.mul_one,Nat.add_zero,List.getElem?_cons_zero] at this;exact⟨g,cap,hv,hb,hg,hc,hm,this⟩
def qE (A:zL):Bool:=A.ae.all λ t=>!t.isVar
theorem z2i (w:W8)(base:Nat)(A:zL)(a:O8)(c:Nat)(h:w.ownsRow base 317 3 (.slice a A.ae.length c) A.ae.length (cellsOf A.ae)):
  Calls Tryz.prog 131 #[.agg #[.string A.pred,.slice a A.ae.length c,.bool A.no,.int .i64 A.at_,.int .i64 A.az]] w λ e w'=>e=.returned (.bool (qE A))/\Below w.heap.size w w':=by
 have b0:=(Below.refl w.heap.size w).alloc L9 (.cells #[.string A.pred,.slice a A.ae.length c,.bool A.no,.int .i64 A.at_,.int .i64 A.az] 243);have hx:(w.alloc (.cells #[.string A.pred,.slice a A.ae.length c,.bool A.no,.int .i64 A.at_,.int .i64 A.az] 243)).heap[w.heap.size]?=_:=heap_alloc_new w _;have H:=zC (h.alloc (.cells #[.string A.pred,.slice a A.ae.length c,.bool A.no,.int .i64 A.at_,.int .i64 A.az] 243));have HB:=zC b0;have gR:=yU h;unfold maxLen at gR;clear h b0;go_enter Tryz.func131,Tryz.ntmps131;go_wp2_with fail;generalize (w.alloc (.cells #[.string A.pred,.slice a A.ae.length c,.bool A.no,.int .i64 A.at_,.int .i64 A.az] 243))=w0 at *;obtain⟨x1,mZ⟩:=zB hx 1
 go_loopg [3] A.ae.length (λ gg i wr=>∃ k:Nat,k<=A.ae.length/\gg=A.ae.length-k/\i=.int .i64 k/\wr=w0/\(A.ae.take k).all (λ t=>!t.isVar)=true)
 exact⟨0,Nat.zero_le _,rfl,rfl,rfl,by simp⟩
 case round=>
  obtain⟨k,hk,eD,rfl,rfl,aS⟩:=hrel
  by_cases aF:k<A.ae.length
  ·obtain⟨g,cap,hv,-,aZ,bO,bQ,hc⟩:=vX (f:=xD.cells) (λ _=>rfl) (zA H) k aF;injection hv with h1 h2 h3
   subst h1 h3;have p1:=hc 1 (by omega);simp only[xD.cells,List.getElem?_cons_zero,List.getElem?_cons_succ] at p1;have dJ:(A.ae.take (k+1)).all (λ t=>!t.isVar)=!A.ae[k].isVar:=by
    rw[List.take_succ_eq_append_getElem aF,List.all_append,aS];simp
   have HS:=zC dJ;clear hc dJ
   cases hv:A.ae[k].isVar with
   | true=>
    have aX:qE A=false:=by
     unfold qE;rw[<-Bool.not_eq_true,List.all_eq_true];intro h2;have:=h2 _ (List.getElem_mem aF);rw[hv] at this
     cases this
    have HN:=zC aX;rw[hv] at p1;clear aS aX hv HS;go_wp2_with fail;go_ret;exact⟨by rw[zA HN];rfl,zA HB⟩
   | false=>
    rw[hv] at p1;have DY:=zC ((zA HS).trans (by rw[hv]));clear aS hv HS;go_wp2_with fail;go_roundg (A.ae.length-(k+1));exact⟨k+1,by omega,rfl,by go_num,rfl,zA DY⟩;omega
  ·have hn:qE A=true:=by
    have:k=A.ae.length:=by omega
    rw[this,List.take_length] at aS;exact aS
   have HN:=zC hn;clear hn aS;go_wp2_with fail;go_ret;exact⟨by rw[zA HN];rfl,zA HB⟩
end
section
open Go.RowKit
def zfv (B:Nat->Bool):List zP->Nat->Nat->(Nat->Nat)->List Nat->Nat × List Nat
 | [],_,n,_,out=>(n,out)
 | f::r,i,n,pl,out=>if B i then zfv B r (i+1) (n+1) (bK pl i n) (out++f.r::f.fr.map (bK pl i n)) else zfv B r (i+1) n pl out
def u8c (x:Nat):Value:=.int .u8 ((x:Int)%256)
def znp (k:Nat)(l:List zP)(B:Nat->Bool):List Nat:=k::(zfv B l 0 0 (λ _=>0) []).1::(zfv B l 0 0 (λ _=>0) []).2
variable {out:List Nat} {pl:Nat->Nat} {n:Nat} {B:Nat->Bool}
theorem zz6 {l:List zP}{k:Nat}(h:k<l.length):zfv B (l.drop k) k n pl out=if B k then zfv B (l.drop (k+1)) (k+1) (n+1) (bK pl k n) (out++l[k].r::l[k].fr.map (bK pl k n)) else zfv B (l.drop (k+1)) (k+1) n pl out:=by
 rw[List.drop_eq_getElem_cons h];rfl
structure BK (w:W8)(gb n:Nat)(B:Nat->Bool):Prop where
 sz:gb<w.heap.size
 cell:∀ i,i<n->w.cell? ⟨gb,i,none⟩=some (.bool (B i))
 fz:∀ j,w.frozen? ⟨gb,j,none⟩=false
variable {gb:Nat} {w w':W8}
theorem BK.below (h:BK w gb n B)(k:Below w.heap.size w w'):BK w' gb n B:=
 ⟨Nat.lt_of_lt_of_le h.sz k.size,λ i hi=>(k.cell (p:=⟨gb,i,none⟩) h.sz).trans (h.cell i hi),λ j=>(k.frozen (p:=⟨gb,j,none⟩) h.sz).trans (h.fz j)⟩
theorem ng.stays {B:List Nat}{gs:Nat}{S:Nat->Nat}(h:ng w gs n S)(k:zK B w w')(hB:gs∉B):ng w' gs n S:=
 ⟨Nat.lt_of_lt_of_le h.sz k.size,λ i hi=>(k.cell (p:=⟨gs,i,none⟩) h.sz hB).trans (h.cell i hi),λ j=>(k.frozen (p:=⟨gs,j,none⟩) h.sz hB).trans (h.fz j)⟩
structure BU (w:W8)(base gb:Nat)(v1:Value)(fs:List FG)(B:Nat->Bool)(pl:Nat->Nat)(out:List Nat)(v9:Value)(wr:W8):Prop where
 below:Below w.heap.size w wr
 place:ng wr w.heap.size fs.length pl
 row:wr.ownsRow (w.heap.size+1) 5 1 v9 out.length (out.map u8c)
variable {wr:W8} {v9 v1:Value} {fs:List FG} {base:Nat}
theorem BU.facts (h:BU w base gb v1 fs B pl out v9 wr)(hf:yZ w base v1 fs):yZ wr base v1 fs:=hf.below h.below
theorem BU.one {sn:Value}{w5:W8}{x:Nat}{o:Obj}(h:BU w base gb v1 fs B pl out v9 wr)(hg:(wr.alloc o).grownBy w5 v9.ownBlock)(ay:w5.ownsRow (w.heap.size+1) 5 1 sn (out.length+1) (out.map u8c++[u8c x])):BU w base gb v1 fs B pl (out++[x]) sn w5:=by
 have bj:=h.below.size;have pF:=h.place.sz;have k1:zK v9.ownBlock.toList wr w5:=(((zK.refl _ wr).alloc o).trans (zK.aR hg));have hb:∀ x∈v9.ownBlock.toList,w.heap.size+1<=x:=λ x hx=>(h.row.lt x (by simpa using hx)).1
 refine⟨zY h.below k1 bj (λ x hx=>by have:=hb x hx;omega),h.place.stays k1 (λ hm=>by have:=hb _ hm;omega),?_⟩;rw[List.length_append,List.length_singleton,List.map_append];exact ay
theorem z04 (w:W8)(b:O8)(n c:Nat)(h:n<=c)(a:O8)(c':Nat)(ty:TypeId):(Builtin.append_ #[47,47] ty #[.slice b n c,.slice a 0 c']).run Tryz.prog w=.ok (.slice b n c) w:=by
 obtain⟨i0,Af,bL,aY,bg⟩:=info_parts zeo;refine run_append_nothing w _ _ _ 5 i0 Tryz.underlying47 Af b n c h _ ?_
 cases a with
 | none=>exact Src.ofNil w Tryz.underlying47 c'
 | some a=>exact Src.ofSlice w Tryz.underlying47 a 0 c' [] (by simp) (by simp) (by simp)
theorem yd0 (l:List Nat):∀ u∈l.map u8c,u.oneCell'=true:=λ u hu=>by
 obtain⟨x,_,rfl⟩:=List.mem_map.1 hu;rfl
theorem BU.put (h:BU w base gb v1 fs B pl out v9 wr){i:Nat}(hi:i<fs.length)(n:Nat):BU w base gb v1 fs B (bK pl i n) out v9 (wr.setCell ⟨w.heap.size,i,none⟩ (.int .i64 n)):=
 ⟨h.below.setCell L9 _,h.place.set i n hi,ownsRow_setCell_below (a:=⟨w.heap.size,i,none⟩) h.row (by simp) _⟩
theorem zvg (w:W8)(base gb k:Nat)(a1:O8)(c1:Nat)(fs:List FG)(B:Nat->Bool)(hf:yZ w base (.slice a1 fs.length c1) fs)(hB:BK w gb fs.length B)(ko:fs.length<=50)(Ab:∀ f∈fs,f.F.fr.length<=3/\∀ x∈f.F.fr,x<fs.length):
  Calls Tryz.prog 141 #[.int .i64 k,.slice a1 fs.length c1,.slice (some ⟨gb,0,none⟩) fs.length fs.length] w λ e w'=>∃ v,e=.returned v/\w'.ownsRow w.heap.size 5 1 v (znp k (fs.map (·.F)) B).length ((znp k (fs.map (·.F)) B).map u8c)/\Below w.heap.size w w':=by
 obtain⟨i0,hi,bL,aY,bg⟩:=info_parts zeo;have ji:=zfk fs.length (by omega);have aP:BU w base gb (.slice a1 fs.length c1) fs B (λ _=>0) [] (.slice none 0 0) (w.alloc (.cells (madeCells #[.int .i64 0] fs.length) 3)):=⟨B9.alloc L9 _,ng.start w fs.length,World.ownsRow_nil _ _ _ _⟩;have HF:=zC hf;have HB:=zC hB;have wO:=zC Ab;have dB:=zC aP;clear hf hB Ab aP;go_enter Tryz.func141,Tryz.ntmps141;go_wp2_with fail
 go_loopg [8,9,10] fs.length (λ gg vn v9 vi wr=>∃ (i n:Nat) (pl:Nat->Nat) (out:List Nat),i<=fs.length/\gg=fs.length-i/\vn=.int .i64 n/\vi=.int .i64 i/\n<=i/\out.length<=4*i/\BU w base gb (.slice a1 fs.length c1) fs B pl out v9 wr/\zfv B ((fs.map (·.F)).drop i) i n pl out=zfv B (fs.map (·.F)) 0 0 (λ _=>0) [])
 exact⟨0,0,λ _=>0,[],Nat.zero_le _,rfl,rfl,rfl,Nat.le_refl _,by simp,zA dB,rfl⟩
 case round=>
  clear dB;obtain⟨i,n,pl,out,mQ,bS,rfl,rfl,La,rY,ax,hrel⟩:=hrel;obtain⟨a9,c9,rfl⟩:=zD ax.row;have LF:=ax.below.size
  by_cases aF:i<fs.length
  ·have hb:=(zA HB).below ax.below;have sL:=hb.cell i aF;have mO:=ax.facts (zA HF);obtain⟨g,cap,hv,-,aZ,bO,bQ,hc⟩:=zb1 mO.row aF;injection hv with h1 h2 h3
   subst h1 h3;have p8:=hc 8 (by omega);have p9:=hc 9 (by omega);simp only[FG.cells,List.getElem?_cons_zero,List.getElem?_cons_succ] at p8 p9;have aP:=zz6 (B:=B) (l:=fs.map (·.F)) (k:=i) (n:=n) (pl:=pl) (out:=out) (by simpa using aF);have qo:=mO.each fs[i] (List.getElem_mem aF);obtain⟨PW,KH⟩:=zA wO fs[i] (List.getElem_mem aF);have yj:=zC qo;have HG:=zC aZ;rw[List.getElem_map] at aP;generalize hF:fs[i]=F at *;have HS:=zC aP;have bT:=zC ax;have sE:=zC hrel;clear aP hc mO qo ax hrel hb
   cases hBi:B i with
   | false=>
    rw[hBi] at sL;have HE:=zC ((zA HS).symm.trans (zA sE));clear HS sE;have Cu:=zC (show zfv B ((fs.map (·.F)).drop (i+1)) (i+1) n pl out=zfv B (fs.map (·.F)) 0 0 (λ _=>0) [] from by have:=zA HE;rw[hBi] at this;exact this);clear HE p8 p9 hBi;go_wp2_with fail;go_roundg (fs.length-(i+1));exact⟨i+1,n,pl,out,by omega,rfl,rfl,by go_num,by omega,by omega,zA bT,zA Cu⟩;omega
   | true=>
    rw[hBi] at sL;have Cu:=zC (show zfv B ((fs.map (·.F)).drop (i+1)) (i+1) (n+1) (bK pl i n) (out++F.F.r::F.F.fr.map (bK pl i n))=zfv B (fs.map (·.F)) 0 0 (λ _=>0) [] from by have:=(zA HS).symm.trans (zA sE);rw[hBi] at this;exact this);clear HS sE hBi;obtain⟨F0,tvF,fvF⟩:=F;simp only at p8 p9 PW KH;have mx:=(zA yj).i;simp only at mx;obtain⟨af,cf,rfl⟩:=zD mx;clear mx;have hp:=(zA bT).put aF n;have pF:=(zA bT).place.cell i aF;have YC:=(zA bT).place.fz i;have QL:=(zA bT).place.sz;have ay:=hp.row.alloc (.cells #[.int .u8 ((F0.r:Int)%256)] 5);have HP:=zC hp;have aC:=zC hF;clear hp bT hF
    have dt:=zC (by
     have eY:=heap_alloc_new (wr.setCell ⟨w.heap.size,i,none⟩ (.int .i64 n)) (.cells #[.int .u8 ((F0.r:Int)%256)] 5);rw[World.size_setCell] at eY
     exact World.news_of_block eY)
    have C8:g<w.heap.size:=((zA HF).row.lt g rfl).2;have bF:g≠w.heap.size:=(by omega);have Gp:w.heap.size≠g:=(by omega);go_wp2_with (at_builtin;refine wpList_append_own _ rfl _ _ 47 rfl (w.heap.size+1) 5 i0 _ 1 1 Tryz.underlying47 hi bL aY bg rfl (by decide) _ _ _ rfl ay ⟨wr.heap.size,0,none⟩ 1 1 [u8c F0.r] rfl rfl (zA dt) (by intro u hu;rw[List.mem_singleton.1 hu];rfl) (by unfold maxLen;omega) (by omega) (by simp;omega) ?_);intro v5 w5 aq aU hne5;clear hne5;obtain⟨a5,c5,rfl⟩:=zD aq;have Ah:=(zA HP).one aU aq;have Jd:=zC Ah;clear aq aU Ah ay p8 p9 pF YC yj sL HP HG aZ;go_wp2_with fail
    go_loopg [9,11] F0.fr.length (λ gg v9 vj wj=>∃ j:Nat,j<=F0.fr.length/\gg=F0.fr.length-j/\vj=.int .i64 j/\BU w base gb (.slice (some ⟨g,0,none⟩) fs.length c1) fs B (bK pl i n) (out++F0.r::(F0.fr.take j).map (bK pl i n)) v9 wj)
    exact⟨0,Nat.zero_le _,rfl,rfl,by simpa using zA Jd⟩
    case round=>
     clear Jd;obtain⟨j,fp,xj,rfl,ax⟩:=hrel;obtain⟨a9',Xb,rfl⟩:=zD ax.row;have bj:=ax.below.size;have mO:=ax.facts (zA HF);obtain⟨g',dn,oc,-,aZ,-,-,hc⟩:=zb1 mO.row aF;injection oc with h1 h2 h3
     injection h1 with h1
     injection h1 with h1
     subst h1 h3;have p9:=hc 9 (by omega);have qo:=mO.each fs[i] (List.getElem_mem aF);rw[zA aC] at p9 qo;simp only[FG.cells,List.getElem?_cons_zero,List.getElem?_cons_succ] at p9;have mx:=qo.i;simp only[zym] at mx
     by_cases hlj:j<F0.fr.length
     ·obtain⟨gf,Xf,Q7,-,PY,XN,XO,q0⟩:=z3g mx j hlj;injection Q7 with h1 h2 h3
      subst h1 h3;have Dy:=KH _ (List.getElem_mem hlj);have QJ:=ax.place.cell _ Dy;have Uh:=ax.place.sz;have ay:=ax.row.alloc (.cells #[.int .u8 ((bK pl i n F0.fr[j]:Nat)%256)] 5);have hlen:(out++F0.r::(F0.fr.take j).map (bK pl i n)).length<=300:=(by simp;omega);have dJ:(out++F0.r::(F0.fr.take j).map (bK pl i n))++[bK pl i n F0.fr[j]]=out++F0.r::(F0.fr.take (j+1)).map (bK pl i n):=by
       rw[List.take_succ_eq_append_getElem hlj,List.map_append,List.map_cons,List.map_nil];simp only[List.append_assoc,List.cons_append]
      have uk:=zC dJ;have HH:=zC ax;clear ax hc mO qo mx dJ;generalize F0.fr[j]=x at *;generalize hS:bK pl i n x=y at *;generalize hO:out++F0.r::(F0.fr.take j).map (bK pl i n)=outj at *;go_wp2_with (at_builtin;refine wpList_append_own _ rfl _ _ 47 rfl (w.heap.size+1) 5 i0 _ 1 1 Tryz.underlying47 hi bL aY bg rfl (by decide) _ _ _ rfl ay ⟨wr.heap.size,0,none⟩ 1 1 [u8c y] rfl rfl (World.news_of_block (heap_alloc_new wr _)) (by intro u hu;rw[List.mem_singleton.1 hu];rfl) (by unfold maxLen;omega) (by omega) (by simp;omega) ?_);intro v6 w6 hown6 sN hne6;clear hne6;obtain⟨a6,c6,rfl⟩:=zD hown6;have Om:=zC ((zA HH).one sN hown6);clear hown6 sN;go_wp2_with fail;go_roundg (F0.fr.length-(j+1));exact⟨j+1,by omega,rfl,by go_num,by rw[<-zA uk];exact zA Om⟩;omega
     ·have hj:j=F0.fr.length:=(by omega);subst hj;rw[List.take_length] at ax;have HH:=zC ax;have hlen:(out++F0.r::F0.fr.map (bK pl i n)).length<=4*(i+1):=(by simp;omega);clear ax hc mO qo mx;generalize hO:out++F0.r::F0.fr.map (bK pl i n)=outj at *;go_wp2_with fail;go_roundg (fs.length-(i+1));exact⟨i+1,n+1,bK pl i n,_,by omega,rfl,by go_num,by go_num,by omega,hlen,zA HH,zA Cu⟩;omega
  ·have ve:i=fs.length:=(by omega);subst ve;have aE:zfv B (fs.map (·.F)) 0 0 (λ _=>0) []=(n,out):=(by rw[<-hrel,List.drop_of_length_le (by simp)];rfl);have QR:znp k (fs.map (·.F)) B=k::n::out:=(by unfold znp;rw[aE]);have rS:=zC QR;have bj:=ax.below.size;have QL:=ax.place.sz;have bX:(wr.alloc (.cells #[.int .u8 ((k:Int)%256),.int .u8 ((n:Int)%256)] 5)).ownsRow w.heap.size 5 1 (.slice (some ⟨wr.heap.size,0,none⟩) 2 2) 2 [u8c k,u8c n]:=World.ownsRow_lit wr _ 2 (by omega) (by unfold maxLen;omega) rfl;have dp:=ax.below.alloc (by omega) (.cells #[.int .u8 ((k:Int)%256),.int .u8 ((n:Int)%256)] 5);have IZ:=zC dp;have pT:=zC bX;clear La
   cases out with
   | nil=>
    have qk:=zC (z04 (wr.alloc (.cells #[.int .u8 ((k:Int)%256),.int .u8 ((n:Int)%256)] 5)) (some ⟨wr.heap.size,0,none⟩) 2 2 L9 a9 c9);clear hrel aE ax QR bX dp;go_wp2_with (at_builtin;go_must (refine zdh rfl _ _ _ rfl _ _ rfl rfl (zA qk) ?_));go_ret;exact⟨_,rfl,by rw[zA rS];exact zA pT,zA IZ⟩
   | cons x0 out0=>
    generalize hO:x0::out0=out at *;have aJ:0<out.length:=(by rw[<-hO];simp);obtain⟨g9,Xb,YQ,-⟩:=z3g ax.row 0 aJ;injection YQ with q1 q2 q3
    subst q1 q3;have dt:=zC (zsp (ax.row.alloc (.cells #[.int .u8 ((k:Int)%256),.int .u8 ((n:Int)%256)] 5)));have Aa:=zC (λ (w5:W8) (v:Value) (hg:(wr.alloc (.cells #[.int .u8 ((k:Int)%256),.int .u8 ((n:Int)%256)] 5)).grownBy w5 (Value.slice (some ⟨wr.heap.size,0,none⟩) 2 2).ownBlock)=>(show Below w.heap.size w w5 from zY dp (zK.aR hg) dp.size (λ b hm=>by simp[Value.ownBlock] at hm;omega)));clear hrel aE ax QR bX dp hO;go_wp2_with (at_builtin;go_must (refine wpList_append_own _ rfl _ _ 47 rfl w.heap.size 5 i0 _ 1 1 Tryz.underlying47 hi bL aY bg rfl (by decide) _ _ _ rfl (zA pT) ⟨g9,0,none⟩ out.length c9 (out.map u8c) rfl (by simp) (zA dt) (yd0 out) (by unfold maxLen;omega) (by omega) (by simp;omega) ?_));intro v5 w5 aq aU hne5;clear hne5;have Cq:=zC (zA Aa w5 v5 aU);obtain⟨a5,c5,rfl⟩:=zD aq;have CD:=zC aq;clear aq aU Aa;go_wp2_with fail;go_ret;refine⟨_,rfl,?_,zA Cq⟩;have e:(k::n::out).length=2+out.length:=(by rw[List.length_cons,List.length_cons];omega);rw[zA rS,e];exact zA CD
end
section
open Go.RowKit
noncomputable def ya4 (k:Nat):Code:=((Tryz.f91.body.map zdo).getD []).getD k .skip
def lS (l:List zP)(i:Nat):Nat:=(l[i]?.map (·.s)).getD 0
def lH (l:List zP)(i:Nat):Nat:=(l[i]?.map (·.h)).getD 0
def lF (l:List zP)(i:Nat):List Nat:=(l[i]?.map (·.fr)).getD []
def zbg (B:Nat->Bool)(i:Nat)(v:Bool):Nat->Bool:=λ j=>if j=i then v else B j
def vR (B:Nat->Bool)(fr:List Nat):Nat->Bool:=fr.foldl (λ B x=>zbg B x true) B
def IM (l:List zP)(s:Nat)(B:Nat->Bool)(i:Nat):Nat->Bool:=if (B i||decide (lS l i<s))=true then vR (zbg B i true) (lF l i) else zbg B i false
def zh7 (l:List zP)(s:Nat):Nat->(Nat->Bool)->Nat->Bool
 | 0,B=>B
 | i+1,B=>zh7 l s i (IM l s B i)
variable {B:Nat->Bool} {gb n:Nat} {w:W8}
theorem BK.set (h:BK w gb n B)(i:Nat)(v:Bool)(hi:i<n):BK (w.setCell ⟨gb,i,none⟩ (.bool v)) gb n (zbg B i v):=by
 refine⟨by simpa using h.sz,λ a ha=>?_,λ j=>by simpa using h.fz j⟩
 by_cases e:a=i
 ·subst e;rw[Hl (h.cell a ha)];simp[zbg]
 ·rw[zak (by omega),h.cell a ha];simp[zbg,e]
theorem BK.eq {B':Nat->Bool}(h:BK w gb n B)(e:∀ i,i<n->B i=B' i):BK w gb n B':=⟨h.sz,λ i hi=>by rw[h.cell i hi,e i hi],h.fz⟩
theorem zib {i:Nat}:∀ (fr:List Nat) (B:Nat->Bool),B i=true->vR B fr i=true
 | [],_,h=>h
 | x::r,B,h=>zib r _ (by show zbg B x true i=true;unfold zbg;split <;> simp[h])
theorem zia {fr:List Nat}{j:Nat}(h:j<fr.length):vR B (fr.take (j+1))=zbg (vR B (fr.take j)) fr[j] true:=by
 unfold vR;rw[List.take_succ_eq_append_getElem h,List.foldl_append];rfl
structure lT (w0:W8)(n:Nat)(B:Nat->Bool)(wr:W8):Prop where
 below:Below w0.heap.size w0 wr
 row:BK wr w0.heap.size n B
theorem lT.set {w0 wr:W8}(h:lT w0 n B wr)(i:Nat)(v:Bool)(hi:i<n):lT w0 n (zbg B i v) (wr.setCell ⟨w0.heap.size,i,none⟩ (.bool v)):=⟨h.below.setCell L9 _,h.row.set i v hi⟩
theorem ydc (w0 w:W8)(base k:Nat)(al:O8)(cl:Nat)(fs:List FG)(hf:yZ w0 base (.slice al fs.length cl) fs)(ko:fs.length<=50)(B:Nat->Bool)(hI:lT w0 fs.length B w)
  {Q:Exit->Act->W8->Prop} {c0 c1 c2 c3 c4 c5 c6 c7 c8 c9 gD gV fO gW fD eG eL eM eN eO eQ eR eS eT eU eV eW fg fh fk fl fm fI fJ fK fP fQ fR fU fV fW dU fX fY fZ gd gh gi gP gQ fE jq jr js ee jt ju jv jw jx jy jz kc kf kg kh ki kj km kx ky kz kD kE kF kG kH kI iO iP iQ iR iS iT iU iV iW iX iY iZ ja jb jc jd je jf dm cj cq cx cy cz cA cC cK cL cM cN cO cP cQ cR cU cV cW cX cY cD cE cF cZ da dc dd de cG gE gF gG gH gI gJ gK gL gM gN gO fC uQ uR uS uT uU uV uW uX pV pW pX pY pZ qa qb qc qd qe qf qg qh qi:Value}
  (aT:∀ (w2:W8) (u16 tU tV tW tX tY tZ ua ub uc Bq Bs Bt Bu Bv Bw By:Value),lT w0 fs.length (λ i=>decide (lS (fs.map (·.F)) i<k)) w2->Q (.exit 0) ⟨List.toArray (c0::c1::c2::c3::c4::c5::c6::c7::c8::c9::gD::.slice al fs.length cl::.slice (some ⟨w0.heap.size,0,none⟩) fs.length fs.length::gV::.int .i64 k::fO::u16::gW::fD::eG::eL::eM::eN::eO::eQ::eR::eS::eT::eU::eV::eW::fg::fh::fk::fl::fm::fI::fJ::fK::fP::fQ::fR::fU::fV::fW::dU::fX::fY::fZ::gd::gh::gi::gP::gQ::fE::jq::jr::js::ee::jt::ju::jv::jw::jx::jy::jz::kc::kf::kg::kh::ki::kj::km::tU::tV::tW::tX::tY::tZ::ua::ub::uc::Bq::Bs::Bt::Bu::Bv::Bw::By::iV::iW::iX::iY::iZ::ja::jb::jc::jd::je::jf::dm::cj::cq::cx::cy::cz::cA::cC::cK::cL::cM::cN::cO::cP::cQ::cR::cU::cV::cW::cX::cY::cD::cE::cF::cZ::da::dc::dd::de::cG::gE::gF::gG::gH::gI::gJ::gK::gL::gM::gN::gO::fC::uQ::uR::uS::uT::uU::uV::uW::uX::pV::pW::pX::pY::pZ::qa::qb::qc::qd::qe::qf::qg::qh::qi::[]),[]⟩ w2):
  Code.wp Tryz.prog (Code.loop (ya4 0)) Q ⟨List.toArray (c0::c1::c2::c3::c4::c5::c6::c7::c8::c9::gD::.slice al fs.length cl::.slice (some ⟨w0.heap.size,0,none⟩) fs.length fs.length::gV::.int .i64 k::fO::.int .i64 0::gW::fD::eG::eL::eM::eN::eO::eQ::eR::eS::eT::eU::eV::eW::fg::fh::fk::fl::fm::fI::fJ::fK::fP::fQ::fR::fU::fV::fW::dU::fX::fY::fZ::gd::gh::gi::gP::gQ::fE::jq::jr::js::ee::jt::ju::jv::jw::jx::jy::jz::kc::kf::kg::kh::ki::kj::km::kx::ky::kz::kD::kE::kF::kG::kH::kI::iO::iP::iQ::iR::iS::iT::iU::iV::iW::iX::iY::iZ::ja::jb::jc::jd::je::jf::dm::cj::cq::cx::cy::cz::cA::cC::cK::cL::cM::cN::cO::cP::cQ::cR::cU::cV::cW::cX::cY::cD::cE::cF::cZ::da::dc::dd::de::cG::gE::gF::gG::gH::gI::gJ::gK::gL::gM::gN::gO::fC::uQ::uR::uS::uT::uU::uV::uW::uX::pV::pW::pX::pY::pZ::qa::qb::qc::qd::qe::qf::qg::qh::qi::[]),[]⟩ w:=by
 conv=>arg 2;arg 1;whnf
 have HF:=zC hf;have HX:=zC aT;have HI:=zC hI;clear hf aT hI
 go_loopg [16] fs.length (λ gg ii wr=>∃ (i:Nat) (B':Nat->Bool),i<=fs.length/\gg=fs.length-i/\ii=.int .i64 i/\lT w0 fs.length B' wr/\∀ j,j<i->B' j=decide (lS (fs.map (·.F)) j<k))
 exact⟨0,B,Nat.zero_le _,rfl,rfl,zA HI,λ j hj=>by omega⟩
 case round=>
  clear HI;obtain⟨i,B',mQ,bS,rfl,ax,hj⟩:=hrel;have bj:=ax.below.size
  by_cases aF:i<fs.length
  ·have mO:=(zA HF).below ax.below;obtain⟨g,cap,hv,-,aZ,bO,bQ,hc⟩:=zb1 mO.row aF;injection hv with h1 h2 h3
   subst h1 h3;have p6:=hc 6 (by omega);simp only[FG.cells,List.getElem?_cons_zero,List.getElem?_cons_succ] at p6;have C8:g<w0.heap.size:=((zA HF).row.lt g rfl).2;have sL:=ax.row.cell i aF;have TD:=ax.row.fz i;have ly:=ax.row.sz;have Ir:lS (fs.map (·.F)) i=fs[i].F.s:=by unfold lS;rw[List.getElem?_map,List.getElem?_eq_getElem aF];rfl
   have HE:=zC (λ (b:Bool) (hb:b=decide (fs[i].F.s<k))=>(show ∀ j,j<i+1->zbg B' i b j=decide (lS (fs.map (·.F)) j<k) from λ j h=>by
    unfold zbg
    split
    ·rename_i e;subst e;rw[Ir];exact hb
    ·exact hj j (by omega)))
   have HS:=zC (λ b:Bool=>ax.set i b aF);clear hc mO ax hj Ir;generalize fs[i].F.s=si at *
   by_cases mi:si<k
   ·have Gv:(si:Int)<k:=(by omega);go_wp2_with fail;go_roundg (fs.length-(i+1));exact⟨i+1,_,by omega,rfl,by go_num,zA HS true,zA HE true (by simp[mi])⟩;omega
   ·have Gv:¬ (si:Int)<k:=(by omega);go_wp2_with fail;go_roundg (fs.length-(i+1));exact⟨i+1,_,by omega,rfl,by go_num,zA HS false,zA HE false (by simp[mi])⟩;omega
  ·have hi:i=fs.length:=(by omega);subst hi;have HE:=zC (show lT w0 fs.length (λ i=>decide (lS (fs.map (·.F)) i<k)) wr from ⟨ax.below,ax.row.eq hj⟩);clear ax hj;go_wp2_with fail;apply zA HX;exact zA HE
theorem ya3 (w0 w:W8)(base g i cl:Nat)(fs:List FG)(hf:yZ w0 base (.slice (some ⟨g,0,none⟩) fs.length cl) fs)(hi:i<fs.length)(me:∀ x∈fs[i].F.fr,x<fs.length)(B:Nat->Bool)(hI:lT w0 fs.length B w)
  {Q:Exit->Act->W8->Prop} {c0 c1 c2 c3 c4 c5 c6 c7 c8 c9 gD gV ie fO ig eG eL eM eN eO eQ eR eS eT eU eV eW fg fh fk fl fm fI fJ fK fP fQ fR fU fV fW dU fX fY fZ gd gh gi gP gQ fE jq jr js ee jt ju jv jw jx jy jz kc kf kg kh ki kj km kx ky kz kD kE kF kG kH kI iO iP iQ iR iS iT iU iV iW iX iY iZ ja jb jc jd je jf dm cj cq cx cy cz cA cC cK cL cM cN cO cP cQ cR cU cV cW cX cY cD cE cF cZ da dc dd de cG gE gF gG gH gI gJ gK gL gM gN gO fC uQ uR uS uT uU uV uW uX pV pW pX pY pZ qa qb qc qd qe qf qg qh qi:Value}
  (aT:∀ (w2:W8) (DK ph pj pk pn po tF tG tH tI tJ tK tL tM tN tO tP tQ GR GU GV GX GY GZ G0 G1 G2:Value),lT w0 fs.length (if B i=true then vR B fs[i].F.fr else B) w2->Q (.exit 4) ⟨List.toArray (c0::c1::c2::c3::c4::c5::c6::c7::c8::c9::gD::.slice (some ⟨g,0,none⟩) fs.length cl::.slice (some ⟨w0.heap.size,0,none⟩) fs.length fs.length::gV::ie::fO::ig::.int .i64 i::DK::eG::eL::eM::eN::eO::eQ::eR::eS::eT::eU::eV::eW::fg::fh::fk::fl::fm::fI::fJ::fK::fP::fQ::fR::fU::fV::fW::dU::fX::fY::fZ::gd::gh::gi::gP::gQ::fE::jq::jr::js::ee::jt::ju::jv::jw::jx::jy::jz::kc::kf::kg::kh::ki::kj::km::kx::ky::kz::kD::kE::kF::kG::kH::kI::iO::iP::iQ::iR::iS::iT::iU::iV::iW::iX::iY::iZ::ja::jb::jc::jd::je::jf::dm::cj::cq::cx::cy::cz::cA::cC::cK::cL::cM::cN::cO::cP::cQ::cR::cU::cV::cW::cX::cY::cD::cE::cF::ph::pj::pk::pn::po::tF::tG::tH::tI::tJ::tK::tL::tM::tN::tO::tP::tQ::GR::GU::GV::GX::GY::GZ::G0::G1::G2::pV::pW::pX::pY::pZ::qa::qb::qc::qd::qe::qf::qg::qh::qi::[]),[]⟩ w2):
  Code.wp Tryz.prog (Code.loop (ya4 2)) Q ⟨List.toArray (c0::c1::c2::c3::c4::c5::c6::c7::c8::c9::gD::.slice (some ⟨g,0,none⟩) fs.length cl::.slice (some ⟨w0.heap.size,0,none⟩) fs.length fs.length::gV::ie::fO::ig::.int .i64 i::.int .i64 0::eG::eL::eM::eN::eO::eQ::eR::eS::eT::eU::eV::eW::fg::fh::fk::fl::fm::fI::fJ::fK::fP::fQ::fR::fU::fV::fW::dU::fX::fY::fZ::gd::gh::gi::gP::gQ::fE::jq::jr::js::ee::jt::ju::jv::jw::jx::jy::jz::kc::kf::kg::kh::ki::kj::km::kx::ky::kz::kD::kE::kF::kG::kH::kI::iO::iP::iQ::iR::iS::iT::iU::iV::iW::iX::iY::iZ::ja::jb::jc::jd::je::jf::dm::cj::cq::cx::cy::cz::cA::cC::cK::cL::cM::cN::cO::cP::cQ::cR::cU::cV::cW::cX::cY::cD::cE::cF::cZ::da::dc::dd::de::cG::gE::gF::gG::gH::gI::gJ::gK::gL::gM::gN::gO::fC::uQ::uR::uS::uT::uU::uV::uW::uX::pV::pW::pX::pY::pZ::qa::qb::qc::qd::qe::qf::qg::qh::qi::[]),[]⟩ w:=by
 conv=>arg 2;arg 1;whnf
 have HF:=zC hf;have HX:=zC aT;have HI:=zC hI;have Fh:=zC me;clear hf aT hI me;have uo:∀ wr,lT w0 fs.length (λ _=>false) wr\/Below w0.heap.size w0 wr->∃ af cf,wr.cell? ⟨g,i*10+9,none⟩=some (.slice af fs[i].F.fr.length cf)/\wr.ownsRow base 3 1 (.slice af fs[i].F.fr.length cf) fs[i].F.fr.length (fs[i].F.fr.map λ (x:Nat)=>Value.int .i64 x)/\g<w0.heap.size:=λ wr h=>by
  have hb:Below w0.heap.size w0 wr:=h.elim (λ h=>h.below) id;have mO:=(zA HF).below hb;obtain⟨g',dn,hv,-,aZ,-,-,hc⟩:=zb1 mO.row hi;injection hv with h1 h2 h3
  injection h1 with h1
  injection h1 with h1
  subst h1;have p9:=hc 9 (by omega);simp only[FG.cells,List.getElem?_cons_zero,List.getElem?_cons_succ] at p9;have mx:=(mO.each fs[i] (List.getElem_mem hi)).i;simp only[zym] at mx;obtain⟨af,cf,e⟩:=zD mx;rw[e] at p9 mx;exact⟨af,cf,p9,mx,((zA HF).row.lt g rfl).2⟩
 have I5:=zC uo;clear uo;generalize fs[i].F.fr=fr at *
 cases hB:B i with
 | false=>
  go_loopg [18] 0 (λ gg jj wr=>jj=.int .i64 0/\lT w0 fs.length B wr)
  exact⟨rfl,zA HI⟩
  case round=>
   obtain⟨rfl,ax⟩:=hrel;obtain⟨af,cf,p9,mx,C8⟩:=zA I5 wr (.inr ax.below);have sL:=ax.row.cell i hi;have ly:=ax.row.sz;rw[hB] at sL;have gR:=yU mx;unfold maxLen at gR;have HE:=zC (show lT w0 fs.length (if B i=true then vR B fr else B) wr from by rw[hB];exact ax);clear ax mx
   by_cases hfl0:0<fr.length
   ·go_wp2_with fail;apply zA HX;exact zA HE
   ·have h0:fr.length=0:=(by omega);go_wp2_with fail;apply zA HX;exact zA HE
 | true=>
  go_loopg [18] fr.length (λ gg jj wr=>∃ j:Nat,j<=fr.length/\gg=fr.length-j/\jj=.int .i64 j/\lT w0 fs.length (vR B (fr.take j)) wr)
  exact⟨0,Nat.zero_le _,rfl,rfl,zA HI⟩
  case round=>
   obtain⟨j,fp,xj,rfl,ax⟩:=hrel;obtain⟨af,cf,p9,mx,C8⟩:=zA I5 wr (.inr ax.below);have sL:=ax.row.cell i hi;have ly:=ax.row.sz;have bj:=ax.below.size;rw[zib _ B hB] at sL;have gR:=yU mx;unfold maxLen at gR
   by_cases hlj:j<fr.length
   ·obtain⟨gf,Xf,Q7,-,PY,XN,XO,q0⟩:=z3g mx j hlj;injection Q7 with h1 h2 h3
    subst h1 h3;have Dy:=zA Fh _ (List.getElem_mem hlj);have dq:=ax.row.cell _ Dy;have TD:=ax.row.fz fr[j];have HS:=zC (ax.set _ true Dy);have aP:=zia (B:=B) hlj;have dB:=zC aP;clear ax mx aP;generalize fr[j]=x at *;go_wp2_with fail;go_roundg (fr.length-(j+1));exact⟨j+1,by omega,rfl,by go_num,by rw[zA dB];exact zA HS⟩;omega
   ·have hj:j=fr.length:=(by omega);subst hj;rw[List.take_length] at ax;have HE:=zC (show lT w0 fs.length (if B i=true then vR B fr else B) wr from by rw[hB];exact ax);clear ax mx;go_wp2_with fail;apply zA HX;exact zA HE
end
end Go.Proofs.YtldkpahaocjdpaaGreat
