/-
  The reference's round, whole.
-/
import Derived.Test.YtldkpahaocjdpaaGreatE37
import Derived.Test.YtldkpahaocjdpaaGreatE40
set_option maxHeartbeats 16000000
set_option maxRecDepth 1000000
namespace Go.Proofs.YtldkpahaocjdpaaGreat
section
open Go.RowKit
theorem ydu (w:W8)(base:Nat)(ag:O8)(n cap:Nat)(K6:n<=1000)(out:List FG)(mz:n=out.length)(w1:W8)(hI:oq w base (.slice ag n cap) out w1)
  {Q:Exit->Act->W8->Prop} {c0 c1 c2 c3 c4 c5 c6 c7 c8 gD ll gy gV ie fO gW fD eG eL eM eN eO eQ eR eS eT eU eV eW fg fh fk fl fm fI fJ fK fP fQ fR fU fV fW dU fX fY fZ gd gh gi gP gQ fE jq jr js ee jt ju jv jw jx jy jz kc kf kg kh ki kj km kx ky kz kD kE kF kG kH kI iO iP iQ iR iS iT iU iV iW iX iY iZ ja jb jc jd je jf dm cj cq cx cy cz cA cC cK cL cM cN cO cP cQ cR cU cV cW cX cY cD cE cF cZ da dc dd de cG gE gF gG gH gI gJ gK gL gM gN gO fC:Value}
  (aT:∀ (rQ:List FG) (w2:W8) (u16 Bl DK Mb tj tm tr tu tw tz tA oT oU oV oW oX oY oZ o5 o6 o7 o8 pe pg tC tD tE ph pj pk pn po tF tG tH tI tJ tK tL tM tN tO tP tQ:Value),oq w base (.slice ag n cap) rQ w2->zdk rQ->rQ.Perm out->Q (.exit 4) ⟨List.toArray (c0::c1::c2::c3::c4::c5::c6::c7::c8::.slice ag n cap::gD::ll::gy::gV::ie::fO::u16::Bl::DK::Mb::eL::eM::eN::eO::eQ::eR::eS::eT::eU::eV::eW::fg::fh::fk::fl::fm::fI::fJ::fK::fP::fQ::fR::fU::fV::fW::dU::fX::fY::fZ::gd::gh::gi::gP::gQ::fE::jq::jr::js::ee::jt::ju::jv::jw::jx::jy::jz::kc::kf::kg::kh::ki::kj::km::kx::ky::kz::kD::kE::kF::kG::kH::kI::iO::iP::iQ::iR::iS::iT::iU::iV::iW::iX::iY::iZ::ja::jb::jc::jd::je::jf::dm::tj::tm::tr::tu::tw::tz::tA::oT::oU::oV::oW::oX::oY::oZ::o5::o6::o7::o8::pe::pg::tC::tD::tE::ph::pj::pk::pn::po::tF::tG::tH::tI::tJ::tK::tL::tM::tN::tO::tP::tQ::fC::[]),[]⟩ w2):
  Code.wp Tryz.prog (Code.loop (zw0 2)) Q ⟨List.toArray (c0::c1::c2::c3::c4::c5::c6::c7::c8::.slice ag n cap::gD::ll::gy::gV::ie::fO::.int .i64 1::gW::fD::eG::eL::eM::eN::eO::eQ::eR::eS::eT::eU::eV::eW::fg::fh::fk::fl::fm::fI::fJ::fK::fP::fQ::fR::fU::fV::fW::dU::fX::fY::fZ::gd::gh::gi::gP::gQ::fE::jq::jr::js::ee::jt::ju::jv::jw::jx::jy::jz::kc::kf::kg::kh::ki::kj::km::kx::ky::kz::kD::kE::kF::kG::kH::kI::iO::iP::iQ::iR::iS::iT::iU::iV::iW::iX::iY::iZ::ja::jb::jc::jd::je::jf::dm::cj::cq::cx::cy::cz::cA::cC::cK::cL::cM::cN::cO::cP::cQ::cR::cU::cV::cW::cX::cY::cD::cE::cF::cZ::da::dc::dd::de::cG::gE::gF::gG::gH::gI::gJ::gK::gL::gM::gN::gO::fC::[]),[]⟩ w1:=by
 conv=>arg 2;arg 1;whnf
 have HI:=zC hI;have HX:=zC aT;have MD:=zC mz;clear hI aT mz
 go_loopg [16] (n-1) (λ gg ii wr=>∃ (i:Nat) (zs C:List FG),gg=n-i/\ii=.int .i64 i/\i<=n+1/\1<=i/\oq w base (.slice ag n cap) (zs++C) wr/\zdk zs/\(zs++C).Perm out/\(zs.length=i\/out=[]))
 case atStart=>
  have hI:=zA HI
  cases out with
  | nil=>exact⟨1,[],[],rfl,rfl,by omega,Nat.le_refl _,hI,List.Pairwise.nil,List.Perm.refl _,.inr rfl⟩
  | cons y r=>
   exact⟨1,[y],r,rfl,rfl,by omega,Nat.le_refl _,hI,List.pairwise_singleton _ _,List.Perm.refl _,.inl rfl⟩
 case round=>
  clear HI;obtain⟨i,zs,C,M9,rfl,ax,hi1,hI,oa,bV,Nk⟩:=hrel;have hlen:(zs++C).length=n:=by rw[bV.length_eq,zA MD]
  by_cases kP:i<n
  ·have Cc:(i:Int)<n:=(by omega);have Nw:zs.length=i:=by
    rcases Nk with h | h
    ·exact h
    ·have:=zA MD;rw[h] at this;simp at this;omega
   cases C with
   | nil=>simp at hlen;omega
   | cons y C=>
    have HI:=zC hI;have uM:=zC oa;have HP:=zC bV;have HZ:=zC Nw;have wS:=zC hlen;clear hI oa bV Nw Nk hlen;go_wp2_with fail;refine ydv w base ag n cap K6 zs y C i (zA HZ) (zA wS).symm (zA uM) wr (zA HI) ?_;intro rQ w8;intros;rename_i hI8 Ih hP8;have BW:=zC hI8;have WC:=zC Ih;have Wp:=zC (show (rQ++C).Perm out from ((List.Perm.append_right C hP8).trans (by rw[List.append_assoc];exact List.Perm.refl _)).trans (zA HP));have ZB:=zC (show rQ.length=i+1 by rw[hP8.length_eq,List.length_append,zA HZ];rfl);clear hI8 Ih hP8 HI uM HP HZ wS;go_wp2_with fail;go_roundg (n-(i+1));exact⟨i+1,rQ,C,rfl,by go_num,by omega,by omega,zA BW,zA WC,zA Wp,.inl (zA ZB)⟩;omega
  ·have Xo:C=[]:=by
    rcases Nk with h | h
    ·rw[List.length_append] at hlen;exact List.eq_nil_of_length_eq_zero (by omega)
    ·rw[h] at bV;have:=bV.eq_nil;exact (List.append_eq_nil_iff.1 this).2
   subst Xo;rw[List.append_nil] at hI bV;have HI:=zC hI;have uM:=zC oa;have HP:=zC bV;clear hI oa bV Nk hlen;go_wp2_with fail;apply zA HX
   ·exact zA HI
   ·exact zA uM
   ·exact zA HP
structure Mi (w:W8)(l:List zP)(T:List zP × Bool)(v:Value)(out:List FG)(w':W8):Prop where
 facts:yZ w' w.heap.size v out
 eJ:out.length<=51
 below:Below w.heap.size w w'
 stop:T.2=true->out.map (·.F)=T.1
 perm:T.2=false->zdk out/\(out.map (·.F)).Perm T.1
def yaf (w:W8)(l:List zP)(T:List zP × Bool):Ending->W8->Prop:=λ e w'=>∃ v out,e=.returned v/\Mi w l T v out w'
theorem z4v (w:W8)(o:Nat)(rs:List RR)(ps:P9)(rv pv tv:Value)(gs:Nat)(S:Nat->Nat)(base:Nat)(fs:List FG)(al:O8)(cl:Nat)(hC:yea w o rs ps rv pv tv gs S base fs (.slice al fs.length cl))(s n:Nat):
  Calls Tryz.prog 196 #[.pointer (some ⟨o,0,none⟩),.slice al fs.length cl,.int .i64 s,.int .i64 n] w (yaf w (fs.map (·.F)) (vC (fs.map (·.F)) (j4 ps S (fs.map (·.F)) s n (rs.map (·.R)) 0) [])):=by
 have HC:=zC hC;have H0:=zC (show z54 w (.slice none 0 0) [] w from ⟨Below.refl _ _,World.ownsRow_nil _ _ _ _,by simp⟩);clear hC;go_enter Tryz.func196,Tryz.ntmps196;go_wp2_with fail;refine yds w o rs ps rv pv tv gs S base fs al cl (zA HC) s n w (zA H0) ?_ ?_
 ·intro v9 out w2;intros;rename_i hI hl hT;obtain⟨a9,c9,rfl⟩:=zD hI.out.row;have HI:=zC (show oq w w.heap.size (.slice a9 out.length c9) out w2 from ⟨hI.below,hI.out,Nat.le_refl _⟩);have HT:=zC hT;clear hI hT H0;go_wp2_with fail;refine ydu w w.heap.size a9 out.length c9 (by omega) out rfl w2 (zA HI) ?_;intro rQ w3;intros;rename_i gA Ty Ig;have hlen:=Ig.length_eq;have HF:=zC (show Mi w (fs.map (·.F)) (vC (fs.map (·.F)) (j4 ps S (fs.map (·.F)) s n (rs.map (·.R)) 0) []) (.slice a9 out.length c9) rQ w3 from ⟨gA.facts,by omega,gA.below,(λ h=>by rw[zA HT] at h;cases h),λ _=>⟨Ty,by rw[zA HT];exact Ig.map _⟩⟩);clear gA Ty Ig HI HT hlen;go_wp2_with fail;go_ret;exact⟨_,rQ,rfl,zA HF⟩
 ·intro v9 out w2;intros;rename_i hI hl hT;obtain⟨a9,c9,rfl⟩:=zD hI.out.row;have HF:=zC (show Mi w (fs.map (·.F)) (vC (fs.map (·.F)) (j4 ps S (fs.map (·.F)) s n (rs.map (·.R)) 0) []) (.slice a9 out.length c9) out w2 from ⟨hI.out,hl,hI.below,λ _=>by rw[hT],λ h=>by rw[hT] at h;cases h⟩);clear hI hT H0;go_ret;exact⟨_,out,rfl,zA HF⟩
end
section
open Go.RowKit
def zit (e:Env):Prop:=∀ p∈e,p.2.size<=1000
def zxs (ts:List xD):Prop:=∀ t∈ts,t.text.size<=1000
def zc5 (f:zP):Prop:=zxs f.aj.ae
structure zns (a:zL):Prop where
 pd:a.pred.size<=1000
 ts:zxs a.ae
 eJ:a.ae.length<=4
variable {e:Env}
theorem z6z (h:zit e)(n:B8):(zj3 e n).size<=1000:=by
 induction e with
 | nil=>simp[zj3,ByteArray.size]
 | cons x r ih=>
  rw[zj3]
  split
  ·exact h x List.mem_cons_self
  ·exact ih (λ p hp=>h p (List.mem_cons_of_mem _ hp))
theorem z13 (h:zit e){t:xD}(ht:t.text.size<=1000):(oh e t).size<=1000:=by
 unfold oh
 split
 ·exact z6z h _
 ·exact ht
theorem zja:∀ (ts us:List xD) (e e':Env),zit e->zxs us->jB e ts us=some e'->zit e'
 | [],us,e,e',h,_,hm=>by cases us <;> (rw[jB] at hm <;> first | (cases hm;exact h) | simp_all)
 | t::ts,[],e,e',h,_,hm=>by rw[jB] at hm <;> first | (cases hm;exact h) | simp_all
 | t::ts,u::us,e,e',h,hu,hm=>by
  have mj:zxs us:=λ x hx=>hu x (List.mem_cons_of_mem _ hx)
  rw[jB] at hm
  split at hm
  ·refine zja ts us _ _ (λ p hp=>?_) mj hm;rcases List.mem_append.1 hp with hp | hp
   ·exact h p hp
   ·rw[List.mem_singleton.1 hp];exact hu u List.mem_cons_self
  ·split at hm
   ·exact zja ts us _ _ h mj hm
   ·cases hm
theorem z3j {e':Env}{a t:zL}(h:zit e)(ht:zxs t.ae)(hm:qA e a t=some e'):zit e':=by
 unfold qA at hm
 split at hm
 ·exact zja _ _ _ _ h ht hm
 ·cases hm
theorem z5r {a:zL}{x:Way}(hx:zit x.1):∀ (l:List zP) (i:Nat),(∀ f∈l,zc5 f)->∀ y∈zht a x l i,zit y.1
 | [],_,_,y,hy=>by simp[zht] at hy
 | f::r,i,hl,y,hy=>by
  rw[zht,List.mem_append] at hy;rcases hy with hy | hy
  ·split at hy
   ·rename_i e he;rw[List.mem_singleton.1 hy];exact z3j hx (hl f List.mem_cons_self) he
   ·simp at hy
  ·exact z5r hx r (i+1) (λ g hg=>hl g (List.mem_cons_of_mem _ hg)) y hy
theorem z5u {l:List zP}(hl:∀ f∈l,zc5 f):∀ (b:List zL) (now:List Way),(∀ x∈now,zit x.1)->∀ y∈ziq l b now,zit y.1
 | [],now,h,y,hy=>h y hy
 | a::r,now,h,y,hy=>by
  rw[ziq] at hy;refine z5u hl r _ ?_ y hy
  split
  ·exact h
  ·intro x hx;obtain⟨z,hz,hx⟩:=List.mem_flatMap.1 hx;exact z5r (h z hz) l 0 hl x hx
variable {l:List zP}
theorem zxo (hl:∀ f∈l,zc5 f)(b:List zL):∀ y∈ziq l b [([],[])],zit y.1:=z5u hl b _ (λ x hx=>by rw[List.mem_singleton.1 hx];intro p hp;cases hp)
theorem zew:∀ (ts:List (Bool × B8)) (i:Nat),(∀ t∈ts,t.2.size<=1000)->(xJ ts i).length<=ts.length*1001
 | [],_,_=>by simp[xJ]
 | t::r,i,h=>by
  have h1:=zew r (i+1) (λ x hx=>h x (List.mem_cons_of_mem _ hx));have h2:=h t List.mem_cons_self;rw[xJ,List.length_cons,List.length_append,List.length_cons,Nat.succ_mul];have:t.2.data.toList.length=t.2.size:=jI _;omega
theorem z9x {a:zL}(he:zit e)(ha:zns a):zxs (fa e a).ae:=by
 intro t ht;obtain⟨u,hu,rfl⟩:=List.mem_map.1 ht;exact z13 he (ha.ts u hu)
theorem ybp {a:zL}(he:zit e)(ha:zns a):(jH (fa e a)).length<=1000000000:=by
 have h1:=zew ((fa e a).ae.map ed) 0 (λ t ht=>by
  obtain⟨u,hu,rfl⟩:=List.mem_map.1 ht
  exact z9x he ha u hu)
 have h2:(fa e a).ae.length=a.ae.length:=by simp[fa]
 have h3:=ha.eJ;have h4:=ha.pd;unfold jH zau;rw[List.length_map,h2] at h1;rw[List.length_append,List.length_append];have h5:(fa e a).pred.data.toList.length=a.pred.size:=jI _;have h6:(if ((fa e a).ae.map ed).length=0 then ([]:List UInt8) else [41]).length<=1:=by split <;> simp
 have h7:a.ae.length*1001<=4*1001:=Nat.mul_le_mul_right _ h3;omega
variable {out:List zP}
theorem yan {f:zP}(h:∀ x∈out,zc5 x)(hf:zc5 f):∀ x∈ztq l out f,zc5 x:=by
 intro x hx;unfold ztq at hx
 split at hx
 ·rcases List.mem_append.1 hx with hx | hx
  ·exact h x hx
  ·rw[List.mem_singleton.1 hx];exact hf
 ·exact h x hx
theorem zxd {l:List zP}:∀ (cs out:List zP),(∀ f∈cs,zc5 f)->(∀ x∈out,zc5 x)->∀ x∈(vC l cs out).1,zc5 x
 | [],out,_,h=>h
 | f::r,out,hc,h=>by
  rw[vC]
  split
  ·exact h
  ·exact zxd r _ (λ g hg=>hc g (List.mem_cons_of_mem _ hg)) (yan h (hc f List.mem_cons_self))
theorem zvw {ps:P9}{S:Nat->Nat}{l:List zP}{s n:Nat}(hl:∀ f∈l,zc5 f):∀ (rs:List zS) (i:Nat),(∀ R∈rs,∀ a∈R.head::R.body,zns a)->∀ f∈j4 ps S l s n rs i,zc5 f
 | [],_,_,f,hf=>by simp[j4] at hf
 | R::r,i,hr,f,hf=>by
  rw[j4,List.mem_append] at hf;rcases hf with hf | hf
  ·split at hf
   ·obtain⟨x,hx,rfl⟩:=List.mem_map.1 hf;exact z9x (zxo hl R.body x (List.mem_filter.1 hx).1) (hr R List.mem_cons_self _ List.mem_cons_self)
   ·simp at hf
  ·exact zvw hl r (i+1) (λ Q hQ=>hr Q (List.mem_cons_of_mem _ hQ)) f hf
def BN (ps:P9)(S:Nat->Nat)(rs:List zS)(l:List zP)(s n:Nat)(out:List zP):Prop:=
 ((vC l (j4 ps S l s n rs 0) []).2=true/\out=(vC l (j4 ps S l s n rs 0) []).1)\/((vC l (j4 ps S l s n rs 0) []).2=false/\out.Pairwise (λ x y=>jD y x=false)/\out.Perm (vC l (j4 ps S l s n rs 0) []).1)
inductive zbr (ps:P9)(S:Nat->Nat)(rs:List zS)(limit s:Nat):Nat->List zP->Option (List zP)->Prop
 | fG {n:Nat} {l out:List zP}:BN ps S rs l s n out->limit<l.length+out.length->zbr ps S rs limit s n l none
 | done {n:Nat} {l:List zP}:BN ps S rs l s n []->l.length<=limit->zbr ps S rs limit s n l (some l)
 | more {n:Nat} {l out:List zP} {r:Option (List zP)}:BN ps S rs l s n out->out≠[]->l.length+out.length<=limit->zbr ps S rs limit s (n+1) (l++out) r->zbr ps S rs limit s n l r
inductive zka (ps:P9)(S:Nat->Nat)(rs:List zS)(limit di:Nat):Nat->List zP->Option (List zP)->Prop
 | ends {s:Nat} {l:List zP}:di<s->zka ps S rs limit di s l (some l)
 | gX {s:Nat} {l:List zP}:s<=di->zbr ps S rs limit s 1 l none->zka ps S rs limit di s l none
 | next {s:Nat} {l l':List zP} {r:Option (List zP)}:s<=di->zbr ps S rs limit s 1 l (some l')->zka ps S rs limit di (s+1) l' r->zka ps S rs limit di s l r
variable {v:Value} {s n:Nat} {rs:List zS} {S:Nat->Nat} {ps:P9}
theorem Mi.rel {w:W8}{out:List FG}{w':W8}(h:Mi w l (vC l (j4 ps S l s n rs 0) []) v out w'):BN ps S rs l s n (out.map (·.F)):=by
 cases hT:(vC l (j4 ps S l s n rs 0) []).2 with
 | true=>exact .inl ⟨hT,h.stop hT⟩
 | false=>
  obtain⟨h1,h2⟩:=h.perm hT;exact .inr ⟨hT,List.pairwise_map.2 h1,h2⟩
theorem BN.ok (h:BN ps S rs l s n out)(hl:∀ f∈l,zc5 f)(hr:∀ R∈rs,∀ a∈R.head::R.body,zns a):∀ f∈out,zc5 f:=by
 have hk:=zxd (l:=l) (j4 ps S l s n rs 0) [] (zvw hl rs 0 hr) (by simp);rcases h with⟨_,rfl⟩ | ⟨_,_,hp⟩
 ·exact hk
 ·exact λ f hf=>hk f (hp.mem_iff.1 hf)
theorem yZ.app {wX W w5:W8}{base:Nat}{v':Value}{fs out:List FG}(h:yZ wX base v fs)(ho:∀ x∈out,qZ wX base x)(hW:zK [] wX W)(hg:W.grownBy w5 v.ownBlock)(ay:w5.ownsRow base 262 10 v' (fs.length+out.length) (fs.flatMap FG.cells++out.flatMap FG.cells)):yZ w5 base v' (fs++out):=by
 have k5:zK v.ownBlock.toList wX w5:=(hW.mono (by simp)).trans (zK.aR hg);have n1:∀ b∈v.ownBlock.toList,dW wX 317 b:=yH h.row (by decide);have n2:∀ b∈v.ownBlock.toList,dW wX 3 b:=yH h.row (by decide);refine⟨?_,λ y hy=>?_⟩
 ·rw[List.length_append,List.flatMap_append];exact ay
 ·rcases List.mem_append.1 hy with hy | hy
  ·exact (h.each y hy).bu k5 n1 n2
  ·exact (ho y hy).bu k5 n1 n2
end
section
def pa (A:zL):jZ:=⟨A.pred,A.ae.map ed⟩
def bN (A:zL):Th:=(A.pred,A.ae.map (·.text))
theorem zi3 (n:B8):∀ e:Env,zj3 e n=oj e n
 | []=>rfl
 | x::r=>by
  have:=zi3 n r;unfold oj at this ⊢;rw[zj3,pAt]
  split
  ·rfl
  ·exact this
theorem zt4 (e:Env)(t:xD):oh e t=bP e (ed t):=by
 unfold oh bP ed;simp only
 split
 ·exact zi3 _ _
 ·rfl
theorem IP (e:Env)(A:zL):bN (fa e A)=xV e (pa A):=by
 unfold bN fa xV pa;simp only[List.map_map];refine Prod.ext rfl ?_;refine List.map_congr_left λ t _=>?_
 exact zt4 e t
theorem zos:∀ (ts us:List (Bool × B8)) (i:Nat),ts.map (·.2)=us.map (·.2)->xJ ts i=xJ us i
 | [],[],_,_=>rfl
 | [],_::_,_,h=>by cases h
 | _::_,[],_,h=>by cases h
 | t::ts,u::us,i,h=>by
  rw[List.map_cons,List.map_cons] at h;injection h with h1 h2
  rw[xJ,xJ,h1,zos ts us (i+1) h2]
theorem z1a {pd:B8}{ts us:List (Bool × B8)}(h:ts.map (·.2)=us.map (·.2)):zau pd ts=zau pd us:=by
 have hl:ts.length=us.length:=by have:=congrArg List.length h;simpa using this
 unfold zau;rw[zos ts us 0 h,hl]
theorem DO (A:zL):xP A=xK (bN A):=by
 unfold xP xK jH bN xB;rw[z1a (us:=List.map (λ x=>(false,x)) (List.map (·.text) A.ae)) (by simp[List.map_map,ed,Function.comp_def])]
def z9j (c:UInt8):Prop:=c=40\/c=41\/c=44
theorem zjh:∀ {a b x y:List UInt8},(∀ c∈a,¬ z9j c)->(∀ c∈b,¬ z9j c)->(∀ c,x.head?=some c->z9j c)->(∀ c,y.head?=some c->z9j c)->a++x=b++y->a=b/\x=y
 | [],[],_,_,_,_,_,_,h=>⟨rfl,h⟩
 | [],c::b,x,y,_,hb,hx,_,h=>by
  rw[List.nil_append,List.cons_append] at h;exact absurd (hx c (by rw[h];rfl)) (hb c List.mem_cons_self)
 | c::a,[],x,y,ha,_,_,hy,h=>by
  rw[List.nil_append,List.cons_append] at h;exact absurd (hy c (by rw[<-h];rfl)) (ha c List.mem_cons_self)
 | c::a,d::b,x,y,ha,hb,hx,hy,h=>by
  rw[List.cons_append,List.cons_append] at h;injection h with h1 h2
  obtain⟨e1,e2⟩:=zjh (λ c hc=>ha c (List.mem_cons_of_mem _ hc)) (λ c hc=>hb c (List.mem_cons_of_mem _ hc)) hx hy h2;exact⟨by rw[h1,e1],e2⟩
theorem lO.sep {x:B8}(h:lO x):∀ c∈x.data.toList,¬ z9j c:=λ c hc=>by
 have:=h.no c hc;unfold z9j;simp[this]
theorem zv1 {x y:B8}(h:x.data.toList=y.data.toList):x=y:=by
 cases x;cases y
 simp only at h;rw[Array.toList_inj.1 h]
theorem zm1 (ts:List (Bool × B8))(i:Nat):∀ c,(xJ ts i++[41]).head?=some c->z9j c:=by
 intro c h
 cases ts with
 | nil=>simp[xJ] at h;exact .inr (.inl h.symm)
 | cons t r=>
  rw[xJ] at h;simp only[List.cons_append,List.head?_cons,Option.some.injEq] at h;rw[<-h]
  split
  ·exact .inl rfl
  ·exact .inr (.inr rfl)
theorem zs6:∀ (ts us:List (Bool × B8)) (i:Nat),(∀ t∈ts,lO t.2)->(∀ t∈us,lO t.2)->xJ ts i++[41]=xJ us i++[41]->ts.map (·.2)=us.map (·.2)
 | [],[],_,_,_,_=>rfl
 | [],u::us,i,_,_,h=>by
  rw[xJ,xJ,List.cons_append] at h;simp only[List.nil_append] at h;injection h with h1 _
  split at h1 <;> exact absurd h1 (by decide)
 | t::ts,[],i,_,_,h=>by
  rw[xJ,xJ,List.cons_append] at h;simp only[List.nil_append] at h;injection h with h1 _
  split at h1 <;> exact absurd h1 (by decide)
 | t::ts,u::us,i,ht,hu,h=>by
  rw[xJ,xJ,List.cons_append,List.cons_append] at h;injection h with _ h2
  rw[List.append_assoc,List.append_assoc] at h2;obtain⟨e1,e2⟩:=zjh (ht t List.mem_cons_self).sep (hu u List.mem_cons_self).sep (zm1 _ _) (zm1 _ _) h2;rw[List.map_cons,List.map_cons,zv1 e1,zs6 ts us (i+1) (λ x hx=>ht x (List.mem_cons_of_mem _ hx)) (λ x hx=>hu x (List.mem_cons_of_mem _ hx)) e2]
structure D3 (t:Th):Prop where
 pd:lO t.1
 ts:∀ x∈t.2,lO x
theorem zm2 (t:Th):(xB t).map (·.2)=t.2:=by unfold xB;simp[List.map_map,Function.comp_def]
theorem D3.ae {t:Th}(h:D3 t):∀ x∈xB t,lO x.2:=by
 intro x hx;obtain⟨y,hy,rfl⟩:=List.mem_map.1 hx;exact h.ts y hy
theorem zxa (ts:List (Bool × B8)):∀ c,(xJ ts 0++if ts.length=0 then [] else [41]).head?=some c->z9j c:=by
 intro c h
 cases ts with
 | nil=>simp[xJ] at h
 | cons t r=>
  rw[if_neg (by simp)] at h;exact zm1 _ _ c h
theorem zea {t u:Th}(ht:D3 t)(hu:D3 u)(h:xK t=xK u):t=u:=by
 have h':zau t.1 (xB t)=zau u.1 (xB u):=by
  have:=congrArg (λ x:B8=>x.data.toList) h;simpa[xK] using this
 unfold zau at h';obtain⟨e1,e2⟩:=zjh ht.pd.sep hu.pd.sep (zxa _) (zxa _) h';have e3:(xB t).map (·.2)=(xB u).map (·.2):=by
  cases hT:xB t with
  | nil=>
   cases hU:xB u with
   | nil=>rfl
   | cons x r=>rw[hT,hU] at e2;simp[xJ] at e2
  | cons y q=>
   cases hU:xB u with
   | nil=>rw[hT,hU] at e2;simp[xJ] at e2
   | cons x r=>
    rw[hT,hU,if_neg (by simp),if_neg (by simp)] at e2;have h1:=ht.ae;have h2:=hu.ae;rw[hT] at h1;rw[hU] at h2;exact zs6 _ _ 0 h1 h2 e2
 rw[zm2,zm2] at e3;exact Prod.ext (zv1 e1) e3
def oo (e:yR):Prop:=∀ p∈e,lO p.2
variable {v:B8} {e:yR}
theorem zwv (h:oo e){x:B8}(hx:pAt e v=some x):lO x:=by
 induction e with
 | nil=>cases hx
 | cons p r ih=>
  rw[pAt] at hx
  split at hx
  ·cases hx;exact h p List.mem_cons_self
  ·exact ih (λ q hq=>h q (List.mem_cons_of_mem _ hq)) hx
theorem oo.snoc (h:oo e){x:B8}(hx:lO x):oo (e++[(v,x)]):=by
 intro p hp;rcases List.mem_append.1 hp with hp | hp
 ·exact h p hp
 ·rw[List.mem_singleton.1 hp];exact hx
theorem lO.list {x:B8}(h:lO x):(x.toList==[])=false:=by
 have:=h.ne;have e:x.toList≠[]:=by
  rw[ByteArray.toList_eq];intro e;have:=congrArg List.length e;rw[jI,List.length_nil] at this;omega
 simp[e]
theorem zga:∀ (ts us:List xD) (e:Env),ts.length=us.length->oo e->(∀ t∈ts,lO t.text)->(∀ u∈us,lO u.text)->jB e ts us=zj7 e (ts.map ed) (us.map (·.text))
 | [],[],e,_,_,_,_=>by rw[jB];rfl;simp
 | [],_::_,_,h,_,_,_=>by cases h
 | _::_,[],_,h,_,_,_=>by cases h
 | t::ts,u::us,e,h,he,ht,hu=>by
  have hl:ts.length=us.length:=by simpa using h
  have Dm:∀ x∈ts,lO x.text:=λ x hx=>ht x (List.mem_cons_of_mem _ hx)
  have mj:∀ x∈us,lO x.text:=λ x hx=>hu x (List.mem_cons_of_mem _ hx)
  have YO:=hu u List.mem_cons_self;rw[jB,List.map_cons,List.map_cons,zj7];simp only[List.headD_cons,List.tail_cons];unfold pmT
  cases hv:t.isVar with
  | true=>
   have e1:oh e t=oj e t.text:=(by unfold oh;rw[hv,if_pos rfl];exact zi3 _ _);simp only[ed,hv,if_true];rw[e1];unfold pmB oj
   cases hp:pAt e t.text with
   | none=>
    have:((Option.none:Option B8).getD { data:=#[] }).toList==[]:=by rw[ByteArray.toList_eq];rfl
    rw[if_pos this];exact zga ts us _ hl (he.snoc YO) Dm mj
   | some x=>
    have hx:=(zwv he hp).list;simp only[Option.getD_some];rw[if_neg (by rw[hx];decide)]
    by_cases c:(x.toList==u.text.toList)=true
    ·rw[if_pos c,if_pos c];exact zga ts us _ hl he Dm mj
    ·rw[if_neg c,if_neg c]
  | false=>
   have e1:oh e t=t.text:=(by unfold oh;rw[hv,if_neg (by decide)]);simp only[ed,hv];rw[e1,if_neg (by rw[(ht t List.mem_cons_self).list];decide)]
   by_cases c:(t.text.toList==u.text.toList)=true
   ·rw[if_pos c,if_neg (by decide),if_pos c];exact zga ts us _ hl he Dm mj
   ·rw[if_neg c,if_neg (by decide),if_neg c]
structure zis (ps:P9)(a:jZ):Prop where
 w:zkq a.p a.ts
 num:yX ps a.p=some a.ts.length
structure iD (ps:P9)(t:Th):Prop where
 w:D3 t
 num:yX ps t.1=some t.2.length
 eJ:t.2.length<=4
theorem zry {e:Env}{a th:zL}(he:oo e)(ha:zkq (pa a).p (pa a).ts)(ht:D3 (bN th))(hn:a.pred=th.pred->a.ae.length=th.ae.length):qA e a th=xG e (pa a) (bN th):=by
 unfold qA xG;have hb:(a.pred.toList==th.pred.toList)=true↔a.pred=th.pred:=xO
 by_cases c:(a.pred.toList==th.pred.toList)=true
 ·have hl:=hn (hb.1 c);rw[if_pos (by rw[c,hl];simp),show (pa a).p=a.pred from rfl,show Th.p (bN th)=th.pred from rfl,if_pos c];refine zga _ _ _ hl he (λ t h=>?_) (λ t h=>ht.ts _ (List.mem_map.2 ⟨t,h,rfl⟩));exact ha.ts (ed t) (List.mem_map.2 ⟨t,h,rfl⟩)
 ·rw[if_neg (by simp only[Bool.and_eq_true];exact λ h=>c h.1),show (pa a).p=a.pred from rfl,show Th.p (bN th)=th.pred from rfl,if_neg c]
end
section
theorem IJ (v n u:B8):∀ e:yR,pAt (e++[(v,n)]) u=match pAt e u with | some x=>some x | none=>if v.toList==u.toList then some n else none
 | []=>by rw[List.nil_append,pAt,pAt];simp[pAt]
 | x::r=>by
  rw[List.cons_append,pAt,pAt]
  by_cases c:(x.1.toList==u.toList)=true
  ·rw[if_pos c,if_pos c]
  ·rw[if_neg c,if_neg c];exact IJ v n u r
structure EY (e e':yR)(k:Nat):Prop where
 w:oo e'
 len:e'.length<=e.length+k
 ext:∀ v x,pAt e v=some x->pAt e' v=some x
variable {e:yR}
theorem EY.refl (h:oo e):EY e e 0:=⟨h,by omega,λ _ _ h=>h⟩
variable {e':yR}
theorem yb3 {t:zdy}{n:B8}(hn:lO n)(he:oo e)(h:pmT e t n=some e'):EY e e' 1/\(t.1=true->∃ x,pAt e' t.2=some x):=by
 unfold pmT at h
 by_cases hv:t.1=true
 ·rw[if_pos hv] at h;unfold pmB at h
  cases hp:pAt e t.2 with
  | none=>
   rw[hp] at h
   cases h
   refine⟨⟨he.snoc hn,by simp,λ v x hx=>by rw[IJ,hx]⟩,λ _=>⟨n,?_⟩⟩;rw[IJ,hp];simp
  | some x=>
   rw[hp] at h;simp only at h
   split at h
   ·cases h;exact⟨⟨he,by omega,λ _ _ h=>h⟩,λ _=>⟨x,hp⟩⟩
   ·cases h
 ·rw[if_neg hv] at h
  split at h
  ·cases h;exact⟨⟨he,by omega,λ _ _ h=>h⟩,λ c=>absurd c hv⟩
  ·cases h
theorem zwz:∀ (ts:List zdy) (ns:List B8) (e e':yR),ts.length=ns.length->(∀ x∈ns,lO x)->oo e->zj7 e ts ns=some e'->EY e e' ts.length/\∀ t∈ts,t.1=true->∃ x,pAt e' t.2=some x
 | [],_,e,e',_,_,he,h=>by
  rw[zj7] at h
  cases h
  exact⟨EY.refl he,by simp⟩
 | t::ts,[],_,_,hl,_,_,_=>by cases hl
 | t::ts,n::ns,e,e',hl,hn,he,h=>by
  rw[zj7] at h;simp only[List.headD_cons,List.tail_cons] at h
  cases h1:pmT e t n with
  | none=>rw[h1] at h;cases h
  | some e1=>
   rw[h1] at h;simp only at h;obtain⟨g1,b1⟩:=yb3 (hn n List.mem_cons_self) he h1;obtain⟨g2,b2⟩:=zwz ts ns e1 e' (by simpa using hl) (λ x hx=>hn x (List.mem_cons_of_mem _ hx)) g1.w h;refine⟨⟨g2.w,by have:=g1.len;have:=g2.len;simp;omega,λ v x hx=>g2.ext v x (g1.ext v x hx)⟩,λ u hu hv=>?_⟩;rcases List.mem_cons.1 hu with rfl | hu
   ·obtain⟨x,hx⟩:=b1 hv;exact⟨x,g2.ext _ _ hx⟩
   ·exact b2 u hu hv
variable {ps:P9}
theorem zge {a:jZ}{t:Th}(ha:zis ps a)(ht:iD ps t)(he:oo e)(h:xG e a t=some e'):EY e e' 4/\∀ t∈a.ts,t.1=true->∃ x,pAt e' t.2=some x:=by
 unfold xG at h
 split at h
 ·rename_i c;have hp:a.p=t.1:=xO.1 c;have hl:a.ts.length=t.2.length:=by
   have h1:=ha.num;rw[hp,ht.num] at h1;exact (Option.some.inj h1).symm
  obtain⟨g,b⟩:=zwz a.ts t.2 e e' hl ht.w.ts he h;exact⟨⟨g.w,by have:=g.len;have:=ha.w.eJ;omega,g.ext⟩,b⟩
 ·cases h
theorem zfm {ps:P9}{K:List (Th × Nat)}(hK:∀ p∈K,iD ps p.1):∀ (pos:List jZ) (e0 e:yR),(∀ a∈pos,zis ps a)->oo e0->e∈yD K pos e0->EY e0 e (4*pos.length)/\∀ a∈pos,∀ t∈a.ts,t.1=true->∃ x,pAt e t.2=some x
 | [],e0,e,_,he,h=>by
  rw[yD] at h;rw[List.mem_singleton.1 h];exact⟨EY.refl he,by simp⟩
 | a::r,e0,e,ha,he,h=>by
  rw[yD] at h;obtain⟨p,hp,h⟩:=List.mem_flatMap.1 h
  cases hm:xG e0 a p.1 with
  | none=>rw[hm] at h;simp at h
  | some e1=>
   rw[hm] at h;simp only at h;obtain⟨g1,b1⟩:=zge (ha a List.mem_cons_self) (hK p hp) he hm;obtain⟨g2,b2⟩:=zfm hK r e1 e (λ x hx=>ha x (List.mem_cons_of_mem _ hx)) g1.w h;refine⟨⟨g2.w,by have:=g1.len;have:=g2.len;simp;omega,λ v x hx=>g2.ext v x (g1.ext v x hx)⟩,λ x hx t ht hv=>?_⟩;rcases List.mem_cons.1 hx with rfl | hx
   ·obtain⟨y,hy⟩:=b1 t ht hv;exact⟨y,g2.ext _ _ hy⟩
   ·exact b2 x hx t ht hv
theorem zh6 {A:jZ}(hA:zis ps A)(he:oo e)(hb:∀ t∈A.ts,t.1=true->∃ x,pAt e t.2=some x):iD ps (xV e A):=by
 refine⟨⟨hA.w.pd,λ x hx=>?_⟩,?_,?_⟩
 ·obtain⟨t,ht,rfl⟩:=List.mem_map.1 hx;unfold bP
  split
  ·rename_i hv;obtain⟨x,h1⟩:=hb t ht hv;unfold oj;rw[h1];exact zwv he h1
  ·exact hA.w.ts t ht
 ·show yX ps A.p=some (A.ts.map (bP e)).length
  rw[List.length_map];exact hA.num
 ·show (A.ts.map (bP e)).length<=4
  rw[List.length_map];exact hA.w.eJ
theorem iD.ok {t:Th}(h:iD ps t):zdu t:=
 ⟨by have:=h.w.pd.le;show t.1.size<=_;omega,h.eJ,λ x hx=>by have:=(h.w.ts x hx).le;omega,λ x hx=>(h.w.ts x hx).ne⟩
theorem ybj {ls:List (vK × Value)}{a:jZ}:a∈yP ls↔∃ x∈ls,x.1.neg=false/\a=⟨x.1.pd,x.1.ts⟩:=by
 unfold yP vV;simp only[List.map_map,List.mem_map,List.mem_filter,Function.comp_def,zl2,vA]
 constructor
 ·rintro⟨x,⟨h1,h2⟩,rfl⟩;exact⟨x,h1,by simpa using h2,rfl⟩
 ·rintro⟨x,h1,h2,rfl⟩;exact⟨x,⟨h1,by simp[h2]⟩,rfl⟩
theorem ybi {ls:List (vK × Value)}{a:jZ}:a∈zcv ls↔∃ x∈ls,x.1.neg=true/\a=⟨x.1.pd,x.1.ts⟩:=by
 unfold zcv vV;simp only[List.map_map,List.mem_map,List.mem_filter,Function.comp_def,zl2,vA]
 constructor
 ·rintro⟨x,⟨h1,h2⟩,rfl⟩;exact⟨x,h1,by simpa using h2,rfl⟩
 ·rintro⟨x,h1,h2,rfl⟩;exact⟨x,⟨h1,by simp[h2]⟩,rfl⟩
structure nP (ps:P9)(r:PR):Prop where
 l3:r.bs.length<=3
 hd:zis ps (gw r)
 ls:∀ x∈r.bs,zis ps ⟨x.1.pd,x.1.ts⟩
 Bf:∀ t∈(gw r).ts,t.1=true->∃ a∈yP r.bs,t∈a.ts
 EN:∀ x∈zcv r.bs,∀ t∈x.ts,t.1=true->∃ a∈yP r.bs,t∈a.ts
variable {r:PR}
theorem nP.pos (h:nP ps r):∀ a∈yP r.bs,zis ps a:=λ a ha=>by
 obtain⟨x,hx,_,rfl⟩:=ybj.1 ha;exact h.ls x hx
theorem nP.neg (h:nP ps r):∀ a∈zcv r.bs,zis ps a:=λ a ha=>by
 obtain⟨x,hx,_,rfl⟩:=ybi.1 ha;exact h.ls x hx
theorem z4i (ls:List (vK × Value)):(yP ls).length<=ls.length:=by
 unfold yP vV;rw[List.length_map,List.length_map];exact List.length_filter_le _ _
theorem NU:oo []:=λ p hp=>by cases hp
structure yeq (ps:P9)(r:PR)(e:yR):Prop where
 w:oo e
 len:e.length<=12
 hd:iD ps (xV e (gw r))
 neg:∀ x∈zcv r.bs,iD ps (xV e x)
theorem nP.Hf (h:nP ps r){K:List (Th × Nat)}(hK:∀ p∈K,iD ps p.1)(he:e∈yD K (yP r.bs) []):yeq ps r e:=by
 obtain⟨g,b⟩:=zfm hK (yP r.bs) [] e h.pos NU he;refine⟨g.w,?_,zh6 h.hd g.w λ t ht hv=>?_,λ x hx=>zh6 (h.neg x hx) g.w λ t ht hv=>?_⟩
 ·have h1:=g.len;have h2:=z4i r.bs;have h3:=h.l3;rw[List.length_nil] at h1;omega
 ·obtain⟨a,ha,Gz⟩:=h.Bf t ht hv;exact b a ha t Gz hv
 ·obtain⟨a,ha,Gz⟩:=h.EN x hx t ht hv;exact b a ha t Gz hv
theorem z1s {rs:List PR}(h:∀ r∈rs,nP ps r):DP rs (iD ps):=λ _ hK r hr=>
 have g:=h r hr
 ⟨⟨g.l3,λ x hx=>(g.ls x hx).w.eJ,g.hd.w.eJ,λ _ he x hx=>((g.Hf hK he).neg x hx).ok,λ _ he=>(g.Hf hK he).hd.ok,λ _ he=>(g.Hf hK he).len⟩,λ _ he=>(g.Hf hK he).hd⟩
theorem ydy {t:Th}(h:iD ps t):(zau t.1 (xB t)).length<=1000000000:=by
 have h1:=zew (xB t) 0 (λ x hx=>by have:=(h.w.ae x hx).le;omega);have h2:(xB t).length=t.2.length:=by unfold xB;simp
 have h3:=h.eJ;have h4:=h.w.pd.le;have h5:=jI t.1;unfold zau;rw[List.length_append,List.length_append];have h6:(if (xB t).length=0 then ([]:List UInt8) else [41]).length<=1:=by split <;> simp
 have h7:(xB t).length*1001<=4*1001:=Nat.mul_le_mul_right _ (by omega);omega
end
section
structure gu (ps:P9)(K:List (Th × Nat))(l:List zP):Prop where
 mem:∀ t n,(t,n)∈K↔∃ f∈l,bN f.aj=t/\f.h=n
 NC:(K.map (·.1)).Nodup
 EM:(l.map λ f=>bN f.aj).Nodup
 dM:∀ f∈l,iD ps (bN f.aj)
 text:∀ f∈l,f.text=xK (bN f.aj)
theorem Vx (ps:P9):gu ps [] []:=⟨by simp,by simp,by simp,by simp,by simp⟩
variable {l:List zP} {K:List (Th × Nat)} {ps:P9}
theorem gu.ti (h:gu ps K l):∀ p∈K,iD ps p.1:=λ p hp=>by
 obtain⟨f,hf,e,_⟩:=(h.mem p.1 p.2).1 hp;rw[<-e];exact h.dM f hf
theorem gu.key (h:gu ps K l)(t:Th):t∈K.map (·.1)↔t∈l.map λ f=>bN f.aj:=by
 rw[List.mem_map,List.mem_map]
 constructor
 ·rintro⟨p,hp,rfl⟩;obtain⟨f,hf,e,_⟩:=(h.mem p.1 p.2).1 hp;exact⟨f,hf,e⟩
 ·rintro⟨f,hf,rfl⟩;exact⟨(bN f.aj,f.h),(h.mem _ _).2 ⟨f,hf,rfl,rfl⟩,rfl⟩
theorem gu.perm (h:gu ps K l):(K.map (·.1)).Perm (l.map λ f=>bN f.aj):=(List.perm_ext_iff_of_nodup h.NC h.EM).2 h.key
theorem gu.len (h:gu ps K l):K.length=l.length:=by
 have:=h.perm.length_eq;simpa using this
theorem gu.look (h:gu ps K l)(t:Th):(yS K t).isSome=true↔∃ f∈l,bN f.aj=t:=by
 constructor
 ·intro hs;obtain⟨n,hn⟩:=Option.isSome_iff_exists.1 hs;obtain⟨f,hf,e,_⟩:=(h.mem t n).1 (jV hn);exact⟨f,hf,e⟩
 ·rintro⟨f,hf,rfl⟩;rw[za5 h.NC ((h.mem _ _).2 ⟨f,hf,rfl,rfl⟩)];rfl
theorem zrh (t:B8):∀ (l:List zP) (k:Nat),(za1 t l k<0↔∀ f∈l,f.text≠t)
 | [],k=>by simp[za1]
 | x::r,k=>by
  rw[za1]
  by_cases c:(x.text.toList==t.toList)=true
  ·rw[if_pos c];have:x.text=t:=xO.1 c
   constructor
   ·intro h;omega
   ·intro h;exact absurd this (h x List.mem_cons_self)
  ·rw[if_neg c,zrh t r (k+1)];have hx:x.text≠t:=λ e=>c (xO.2 e)
   constructor
   ·intro h f hf;rcases List.mem_cons.1 hf with rfl | hf
    ·exact hx
    ·exact h f hf
   ·exact λ h f hf=>h f (List.mem_cons_of_mem _ hf)
theorem zlw (l:List zP)(t:B8):jE l t<0↔∀ f∈l,f.text≠t:=zrh t l 0
theorem gu.find (h:gu ps K l){t:Th}(ht:iD ps t):jE l (xK t)<0↔(yS K t).isSome=false:=by
 rw[zlw,<-Bool.not_eq_true,h.look]
 constructor
 ·rintro h1 ⟨f,hf,e⟩;exact h1 f hf (by rw[h.text f hf,e])
 ·intro h1 f hf e;refine h1 ⟨f,hf,zea (h.dM f hf).w ht.w ?_⟩;rw[<-h.text f hf,e]
def zqn (b:List zL):List jZ:=(b.filter λ A=>!A.no).map pa
def ybm (b:List zL):List jZ:=(b.filter λ A=>A.no).map pa
theorem zkp {a:zL}{x:Way}{e:Env}:∀ (l:List zP) (i:Nat),(∃ y∈zht a x l i,y.1=e)↔∃ f∈l,qA x.1 a f.aj=some e
 | [],_=>by simp[zht]
 | f::r,i=>by
  have ih:=zkp (a:=a) (x:=x) (e:=e) r (i+1);rw[zht]
  constructor
  ·rintro⟨y,hy,rfl⟩;rcases List.mem_append.1 hy with hy | hy
   ·cases hm:qA x.1 a f.aj with
    | none=>rw[hm] at hy;simp at hy
    | some e'=>
     rw[hm] at hy;rw[List.mem_singleton.1 hy];exact⟨f,List.mem_cons_self,hm⟩
   ·obtain⟨g,hg,e⟩:=ih.1 ⟨y,hy,rfl⟩;exact⟨g,List.mem_cons_of_mem _ hg,e⟩
  ·rintro⟨g,hg,hm⟩;rcases List.mem_cons.1 hg with rfl | hg
   ·refine⟨(e,x.2++[i]),List.mem_append.2 (.inl ?_),rfl⟩;rw[hm];exact List.mem_singleton.2 rfl
   ·obtain⟨y,hy,e⟩:=ih.2 ⟨g,hg,hm⟩;exact⟨y,List.mem_append.2 (.inr hy),e⟩
theorem zqg {ps:P9}{K:List (Th × Nat)}{l:List zP}(hS:gu ps K l):∀ (b:List zL) (now:List Way) (e:yR),(∀ a∈b,zis ps (pa a))->(∀ x∈now,oo x.1)->((∃ y∈ziq l b now,y.1=e)↔∃ x∈now,e∈yD K (zqn b) x.1)
 | [],now,e,_,_=>by
  rw[ziq]
  constructor
  ·rintro⟨y,hy,rfl⟩;exact⟨y,hy,List.mem_singleton.2 rfl⟩
  ·rintro⟨y,hy,h⟩;exact⟨y,hy,(List.mem_singleton.1 h).symm⟩
 | a::r,now,e,ha,hn=>by
  have Ka:∀ x∈r,zis ps (pa x):=λ x hx=>ha x (List.mem_cons_of_mem _ hx)
  have vc:=ha a List.mem_cons_self;rw[ziq]
  cases aX:a.no with
  | true=>
   have e1:zqn (a::r)=zqn r:=(by unfold zqn;rw[List.filter_cons,aX];simp);rw[if_pos rfl,e1];exact zqg hS r now e Ka hn
  | false=>
   have e1:zqn (a::r)=pa a::zqn r:=(by unfold zqn;rw[List.filter_cons,aX];simp);have key:∀ x∈now,∀ f∈l,qA x.1 a f.aj=xG x.1 (pa a) (bN f.aj):=λ x hx f hf=>by
    refine zry (hn x hx) vc.w (hS.dM f hf).w λ e=>?_
    have h1:yX ps a.pred=some (pa a).ts.length:=vc.num;have h2:yX ps f.aj.pred=some (bN f.aj).2.length:=(hS.dM f hf).num;rw[e,h2] at h1;have:=Option.some.inj h1;simp only[bN,pa,List.length_map] at this;exact this.symm
   have hw:∀ y∈zgl a l now,oo y.1:=λ y hy=>by
    obtain⟨x,hx,hy⟩:=List.mem_flatMap.1 hy;obtain⟨f,hf,hm⟩:=(zkp l 0).1 ⟨y,hy,rfl⟩;rw[key x hx f hf] at hm;exact (zge vc (hS.dM f hf) (hn x hx) hm).1.w
   rw[if_neg (by decide),e1,zqg hS r (zgl a l now) e Ka hw]
   constructor
   ·rintro⟨y,hy,he⟩;obtain⟨x,hx,hy⟩:=List.mem_flatMap.1 hy;obtain⟨f,hf,hm⟩:=(zkp l 0).1 ⟨y,hy,rfl⟩;rw[key x hx f hf] at hm;refine⟨x,hx,?_⟩;rw[yD];refine List.mem_flatMap.2 ⟨(bN f.aj,f.h),(hS.mem _ _).2 ⟨f,hf,rfl,rfl⟩,?_⟩;rw[hm];exact he
   ·rintro⟨x,hx,he⟩;rw[yD] at he;obtain⟨p,hp,he⟩:=List.mem_flatMap.1 he;obtain⟨f,hf,bI,_⟩:=(hS.mem p.1 p.2).1 hp
    cases hm:xG x.1 (pa a) p.1 with
    | none=>rw[hm] at he;simp at he
    | some e1=>
     rw[hm] at he;have nw:qA x.1 a f.aj=some e1:=(by rw[key x hx f hf,bI];exact hm);obtain⟨y,hy,e2⟩:=(zkp (x:=x) l 0).2 ⟨f,hf,nw⟩;exact⟨y,List.mem_flatMap.2 ⟨x,hx,hy⟩,by rw[e2];exact he⟩
structure ue (R:zS)(r:PR):Prop where
 eq:r.R=yO R
 bd:r.bs.map (·.1)=r.R.body
variable {r:PR} {R:zS}
theorem ue.pos (h:ue R r):yP r.bs=zqn R.body:=by
 have e:r.bs.map (·.1)=R.body.map lP:=by rw[h.bd,h.eq];rfl
 unfold yP vV zqn;have:∀ (ls:List (vK × Value)) (b:List zL),ls.map (·.1)=b.map lP->((ls.filter (vA false)).map zl2).map (·.1)=(b.filter λ A=>!A.no).map pa:=by
  intro ls
  induction ls with
  | nil=>intro b hb;cases b with
   | nil=>rfl
   | cons x r=>cases hb
  | cons x q ih=>
   intro b hb
   cases b with
   | nil=>cases hb
   | cons A b=>
    rw[List.map_cons,List.map_cons] at hb;injection hb with h1 h2
    have:=ih b h2;rw[List.filter_cons,List.filter_cons];have hn:x.1.neg=A.no:=(by rw[h1];rfl);unfold vA at this ⊢;rw[hn]
    cases A.no with
    | true=>simpa using this
    | false=>
     simp only[Bool.not_false,if_true,beq_self_eq_true,List.map_cons];rw[this]
     congr 1
     show (⟨x.1.pd,x.1.ts⟩:jZ)=pa A
     rw[h1];rfl
 exact this _ _ e
theorem ue.neg {R:zS}{r:PR}(h:ue R r):zcv r.bs=ybm R.body:=by
 have e:r.bs.map (·.1)=R.body.map lP:=by rw[h.bd,h.eq];rfl
 unfold zcv vV ybm;have:∀ (ls:List (vK × Value)) (b:List zL),ls.map (·.1)=b.map lP->((ls.filter (vA true)).map zl2).map (·.1)=(b.filter λ A=>A.no).map pa:=by
  intro ls
  induction ls with
  | nil=>intro b hb;cases b with
   | nil=>rfl
   | cons x r=>cases hb
  | cons x q ih=>
   intro b hb
   cases b with
   | nil=>cases hb
   | cons A b=>
    rw[List.map_cons,List.map_cons] at hb;injection hb with h1 h2
    have:=ih b h2;rw[List.filter_cons,List.filter_cons];have hn:x.1.neg=A.no:=(by rw[h1];rfl);unfold vA at this ⊢;rw[hn]
    cases A.no with
    | false=>simpa using this
    | true=>
     simp only[if_true,beq_self_eq_true,List.map_cons];rw[this]
     congr 1
     show (⟨x.1.pd,x.1.ts⟩:jZ)=pa A
     rw[h1];rfl
 exact this _ _ e
theorem ue.hd (h:ue R r):gw r=pa R.head:=by unfold gw;rw[h.eq];rfl
theorem ue.body (h:ue R r)(hg:nP ps r):∀ a∈R.body,zis ps (pa a):=λ a ha=>by
 have e:lP a∈r.bs.map (·.1):=by rw[h.bd,h.eq];exact List.mem_map.2 ⟨a,ha,rfl⟩
 obtain⟨x,hx,Rb⟩:=List.mem_map.1 e;have:=hg.ls x hx;rw[Rb] at this;exact this
theorem zfs (hS:gu ps K l)(hr:ue R r)(hg:nP ps r)(e:yR):(∃ y∈ze4 R l,y.1=e)↔e∈zbe K (zcv r.bs) (yP r.bs) []:=by
 have h0:(∃ y∈ziq l R.body [([],[])],y.1=e)↔e∈yD K (yP r.bs) []:=by
  rw[zqg hS R.body [([],[])] e (hr.body hg) (λ x hx=>by rw[List.mem_singleton.1 hx];exact NU),hr.pos]
  constructor
  ·rintro⟨x,hx,h⟩;rw[List.mem_singleton.1 hx] at h;exact h
  ·exact λ h=>⟨_,List.mem_singleton.2 rfl,h⟩
 have h1:e∈yD K (yP r.bs) []->(R.body.all (ztj l e)=true↔j6 K (zcv r.bs) e=false):=λ he=>by
  have w:=hg.Hf hS.ti he;have wn:=w.neg;rw[hr.neg] at wn ⊢;unfold j6;rw[List.all_eq_true,List.any_eq_false]
  constructor
  ·intro h x hx;obtain⟨A,hA,rfl⟩:=List.mem_map.1 hx;obtain⟨hA,aX⟩:=List.mem_filter.1 hA;have:=h A hA;unfold ztj at this;simp only[aX,Bool.not_true,Bool.false_or,decide_eq_true_eq] at this;rw[DO,IP] at this;rw[(hS.find (wn _ hx)).1 this]
   decide
  ·intro h A hA;unfold ztj
   cases aX:A.no with
   | false=>rfl
   | true=>
    have hx:pa A∈ybm R.body:=List.mem_map.2 ⟨A,List.mem_filter.2 ⟨hA,aX⟩,rfl⟩;have:=h _ hx;simp only[Bool.not_true,Bool.false_or,decide_eq_true_eq];rw[DO,IP];exact (hS.find (wn _ hx)).2 (by simpa using this)
 unfold ze4 zbe
 constructor
 ·rintro⟨y,hy,rfl⟩;obtain⟨hy,hn⟩:=List.mem_filter.1 hy;have he:=h0.1 ⟨y,hy,rfl⟩;exact List.mem_filter.2 ⟨he,by rw[(h1 he).1 hn];rfl⟩
 ·intro he;obtain⟨he,hn⟩:=List.mem_filter.1 he;obtain⟨y,hy,rfl⟩:=h0.2 he;exact⟨y,List.mem_filter.2 ⟨hy,(h1 he).2 (by simpa using hn)⟩,rfl⟩
end
section
def Ext (e x:yR):Prop:=∀ v y,pAt e v=some y->pAt x v=some y
def Dom (e:yR)(a:jZ):Prop:=∀ t∈a.ts,t.1=true->∃ x,pAt e t.2=some x
theorem Ext.refl (e:yR):Ext e e:=λ _ _ h=>h
theorem Ext.trans {a b c:yR}(h:Ext a b)(k:Ext b c):Ext a c:=λ v y hv=>k v y (h v y hv)
theorem Ext.nil (e:yR):Ext [] e:=λ v y h=>by cases h
theorem Ext.bP {e x:yR}(h:Ext e x){t:zdy}(hd:t.1=true->∃ y,pAt e t.2=some y):bP x t=bP e t:=by
 unfold Go.Proofs.YtldkpahaocjdpaaGreat.bP
 split
 ·rename_i ht;obtain⟨y,hy⟩:=hd ht;unfold oj;rw[h _ _ hy,hy]
 ·rfl
variable {e x:yR}
theorem Ext.fill (h:Ext e x){a:jZ}(hd:Dom e a):xV x a=xV e a:=
 Prod.ext rfl (List.map_congr_left λ t ht=>h.bP (hd t ht))
theorem Ext.SY (h:Ext e x){a:jZ}(hd:Dom e a):Dom x a:=λ t ht hv=>let ⟨y,hy⟩:=hd t ht hv;⟨y,h _ _ hy⟩
variable {e':yR}
theorem z78 {t:zdy}{n:B8}(h:pmT e t n=some e'):Ext e e'/\bP e' t=n/\(t.1=true->∃ x,pAt e' t.2=some x):=by
 unfold pmT at h
 by_cases hv:t.1=true
 ·rw[if_pos hv] at h;unfold pmB at h
  cases hp:pAt e t.2 with
  | none=>
   rw[hp] at h
   cases h
   have h2:pAt (e++[(t.2,n)]) t.2=some n:=(by rw[IJ,hp];simp);refine⟨λ v x hx=>by rw[IJ,hx],?_,λ _=>⟨n,h2⟩⟩;unfold bP oj;rw[if_pos hv,h2];rfl
  | some x=>
   rw[hp] at h;simp only at h
   split at h
   ·rename_i hq
    cases h
    refine⟨Ext.refl _,?_,λ _=>⟨x,hp⟩⟩;unfold bP oj;rw[if_pos hv,hp];exact xO.1 hq
   ·cases h
 ·rw[if_neg hv] at h
  split at h
  ·rename_i hq
   cases h
   refine⟨Ext.refl _,?_,λ c=>absurd c hv⟩;unfold bP;rw[if_neg hv];exact xO.1 hq
  ·cases h
theorem ydq (hx:Ext e x){t:zdy}(hd:t.1=true->∃ y,pAt x t.2=some y):∃ e',pmT e t (bP x t)=some e'/\Ext e' x:=by
 unfold pmT bP
 by_cases hv:t.1=true
 ·obtain⟨y,hy⟩:=hd hv;rw[if_pos hv,if_pos hv];unfold oj pmB;rw[hy];simp only[Option.getD_some]
  cases hp:pAt e t.2 with
  | none=>
   refine⟨_,rfl,λ v z hz=>?_⟩;rw[IJ] at hz
   cases hq:pAt e v with
   | some q=>rw[hq] at hz;cases hz;exact hx _ _ hq
   | none=>
    rw[hq] at hz;simp only at hz
    split at hz
    ·rename_i hc
     cases hz
     rw[<-xO.1 hc];exact hy
    ·cases hz
  | some q=>
   have:=hx _ _ hp;rw[hy] at this
   cases this
   exact⟨e,by simp,hx⟩
 ·rw[if_neg hv,if_neg hv];exact⟨e,by simp,hx⟩
theorem zsi:∀ (ts:List zdy) (ns:List B8) (e e':yR),ts.length=ns.length->zj7 e ts ns=some e'->Ext e e'/\ts.map (bP e')=ns/\∀ t∈ts,t.1=true->∃ x,pAt e' t.2=some x
 | [],[],e,e',_,h=>by rw[zj7] at h;cases h;exact⟨Ext.refl _,rfl,by simp⟩
 | [],_::_,_,_,hl,_=>by cases hl
 | _::_,[],_,_,hl,_=>by cases hl
 | t::ts,n::ns,e,e',hl,h=>by
  rw[zj7] at h;simp only[List.headD_cons,List.tail_cons] at h
  cases h1:pmT e t n with
  | none=>rw[h1] at h;cases h
  | some e1=>
   rw[h1] at h;simp only at h;obtain⟨g1,b1,d1⟩:=z78 h1;obtain⟨g2,b2,d2⟩:=zsi ts ns e1 e' (by simpa using hl) h;refine⟨g1.trans g2,?_,λ u hu hv=>?_⟩
   ·rw[List.map_cons,b2,g2.bP d1,b1]
   ·rcases List.mem_cons.1 hu with rfl | hu
    ·obtain⟨x,hx⟩:=d1 hv;exact⟨x,g2 _ _ hx⟩
    ·exact d2 u hu hv
theorem z4h {x:yR}:∀ (ts:List zdy) (e:yR),Ext e x->(∀ t∈ts,t.1=true->∃ y,pAt x t.2=some y)->∃ e',zj7 e ts (ts.map (bP x))=some e'/\Ext e' x
 | [],e,h,_=>⟨e,rfl,h⟩
 | t::ts,e,h,hd=>by
  obtain⟨e1,h1,g1⟩:=ydq h (hd t List.mem_cons_self);obtain⟨e2,h2,g2⟩:=z4h ts e1 g1 (λ u hu=>hd u (List.mem_cons_of_mem _ hu));refine⟨e2,?_,g2⟩;rw[zj7];simp only[List.map_cons,List.headD_cons,List.tail_cons];rw[h1];exact h2
def yd1 (a:jZ)(t:Th):Prop:=a.p=t.1->a.ts.length=t.2.length
variable {ps:P9}
theorem zt7 {a:jZ}{t:Th}(ha:zis ps a)(ht:iD ps t):yd1 a t:=λ e=>by
 have h1:=ha.num;rw[e,ht.num] at h1;exact (Option.some.inj h1).symm
theorem zhj {a:jZ}{t:Th}(hf:yd1 a t)(h:xG e a t=some e'):Ext e e'/\xV e' a=t/\Dom e' a:=by
 unfold xG at h
 split at h
 ·rename_i c;have hp:a.p=t.1:=xO.1 c;obtain⟨g,b,d⟩:=zsi a.ts t.2 e e' (hf hp) h;exact⟨g,Prod.ext hp b,d⟩
 ·cases h
theorem zsj (hx:Ext e x){a:jZ}(hd:Dom x a):∃ e',xG e a (xV x a)=some e'/\Ext e' x:=by
 obtain⟨e',h1,h2⟩:=z4h a.ts e hx hd;refine⟨e',?_,h2⟩;unfold xG;rw[if_pos (by simp[xV])];exact h1
theorem za9 {K:List (Th × Nat)}:∀ (pos:List jZ) (e x:yR),(∀ a∈pos,∀ p∈K,yd1 a p.1)->x∈yD K pos e->Ext e x/\∀ a∈pos,Dom x a/\∃ n,(xV x a,n)∈K
 | [],e,x,_,h=>by
  rw[yD] at h;rw[List.mem_singleton.1 h];exact⟨Ext.refl _,by simp⟩
 | a::r,e,x,hf,h=>by
  rw[yD] at h;obtain⟨p,hp,h⟩:=List.mem_flatMap.1 h
  cases hm:xG e a p.1 with
  | none=>rw[hm] at h;simp at h
  | some e1=>
   rw[hm] at h;simp only at h;obtain⟨g1,b1,d1⟩:=zhj (hf a List.mem_cons_self p hp) hm;obtain⟨g2,b2⟩:=za9 r e1 x (λ y hy=>hf y (List.mem_cons_of_mem _ hy)) h;refine⟨g1.trans g2,λ y hy=>?_⟩;rcases List.mem_cons.1 hy with rfl | hy
   ·exact⟨g2.SY d1,p.2,by rw[g2.fill d1,b1];exact hp⟩
   ·exact b2 y hy
theorem zhk {K:List (Th × Nat)}{x:yR}:∀ (pos:List jZ) (e:yR),Ext e x->(∀ a∈pos,Dom x a/\∃ n,(xV x a,n)∈K)->∃ e'∈yD K pos e,Ext e' x
 | [],e,h,_=>⟨e,by rw[yD];exact List.mem_singleton.2 rfl,h⟩
 | a::r,e,h,hd=>by
  obtain⟨d,n,hn⟩:=hd a List.mem_cons_self;obtain⟨e1,h1,g1⟩:=zsj h d;obtain⟨e2,h2,g2⟩:=zhk r e1 g1 (λ y hy=>hd y (List.mem_cons_of_mem _ hy));refine⟨e2,?_,g2⟩;rw[yD];refine List.mem_flatMap.2 ⟨_,hn,?_⟩;rw[h1];exact h2
def qK (N:List (Th × Nat))(pos:List jZ)(e:yR):List Nat:=pos.map λ a=>(yS N (xV e a)).getD 0
def zfr (N:List (Th × Nat))(r:PR)(t:Th):List (List Nat):=match xG [] (gw r) t with
 | none=>[]
 | some s=>(zbe N (zcv r.bs) (yP r.bs) s).map (qK N (yP r.bs))
variable {N:List (Th × Nat)}
theorem zmp {pos:List jZ}(h:Ext e x)(hd:∀ a∈pos,Dom e a):qK N pos x=qK N pos e:=
 List.map_congr_left λ a ha=>by rw[h.fill (hd a ha)]
theorem zn0 {K:List (Th × Nat)}{neg:List jZ}(h:Ext e x)(hd:∀ a∈neg,Dom e a):j6 K neg x=j6 K neg e:=by
 unfold j6;have:∀ l:List jZ,(∀ a∈l,a∈neg)->(l.any λ a=>(yS K (xV x a)).isSome)=l.any λ a=>(yS K (xV e a)).isSome:=by
  intro l
  induction l with
  | nil=>intro _;rfl
  | cons a r ih=>intro hl;rw[List.any_cons,List.any_cons,ih (λ b hb=>hl b (List.mem_cons_of_mem _ hb)),h.fill (hd a (hl a List.mem_cons_self))]
 exact this neg (λ _ h=>h)
variable {r:PR}
theorem nP.FJ (hg:nP ps r)(h:∀ a∈yP r.bs,Dom e a):∀ a∈zcv r.bs,Dom e a:=λ a ha t ht hv=>by
 obtain⟨b,hb,QZ⟩:=hg.EN a ha t ht hv;exact h b hb t QZ hv
theorem nP.JV (hg:nP ps r)(h:∀ a∈yP r.bs,Dom e a):Dom e (gw r):=λ t ht hv=>by
 obtain⟨b,hb,QZ⟩:=hg.Bf t ht hv;exact h b hb t QZ hv
theorem zzf (hN:∀ p∈N,iD ps p.1)(hg:nP ps r){t:Th}(ht:iD ps t)(row:List Nat):row∈zfr N r t↔∃ e∈zbe N (zcv r.bs) (yP r.bs) [],xV e (gw r)=t/\qK N (yP r.bs) e=row:=by
 have C5:∀ a∈yP r.bs,∀ p∈N,yd1 a p.1:=λ a ha p hp=>zt7 (hg.pos a ha) (hN p hp)
 constructor
 ·intro h;unfold zfr at h
  cases hs:xG [] (gw r) t with
  | none=>rw[hs] at h;cases h
  | some s=>
   rw[hs] at h;obtain⟨x,hx,rfl⟩:=List.mem_map.1 h;obtain⟨hx,FX⟩:=List.mem_filter.1 hx;obtain⟨-,b1,d1⟩:=zhj (zt7 hg.hd ht) hs;obtain⟨g2,b2⟩:=za9 _ _ _ C5 hx;obtain⟨e,he,g3⟩:=zhk (yP r.bs) [] (Ext.nil x) b2;have d3:∀ a∈yP r.bs,Dom e a:=λ a ha=>((za9 _ _ _ C5 he).2 a ha).1
   refine⟨e,List.mem_filter.2 ⟨he,?_⟩,?_,(zmp g3 d3).symm⟩
   ·rw[<-zn0 g3 (hg.FJ d3)];exact FX
   ·rw[<-g3.fill (hg.JV d3),g2.fill d1,b1]
 ·rintro⟨e,he,hh,rfl⟩;obtain⟨he,FX⟩:=List.mem_filter.1 he;obtain⟨-,b2⟩:=za9 _ _ _ C5 he;have d2:∀ a∈yP r.bs,Dom e a:=λ a ha=>(b2 a ha).1
  obtain⟨s,hs,gs⟩:=zsj (Ext.nil e) (hg.JV d2);rw[hh] at hs;obtain⟨x,hx,g3⟩:=zhk (yP r.bs) s gs b2;have d3:∀ a∈yP r.bs,Dom x a:=λ a ha=>((za9 _ _ _ C5 hx).2 a ha).1
  unfold zfr;rw[hs];refine List.mem_map.2 ⟨x,List.mem_filter.2 ⟨hx,?_⟩,(zmp g3 d3).symm⟩;rw[<-zn0 g3 (hg.FJ d3)];exact FX
end
end Go.Proofs.YtldkpahaocjdpaaGreat
