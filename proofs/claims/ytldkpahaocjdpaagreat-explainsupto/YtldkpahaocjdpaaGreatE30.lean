/-
  The reference's round, whole.
-/
import Derived.Test.YtldkpahaocjdpaaGreatE29
import Derived.DeepKeys4
import Derived.WideKeyArr
import Derived.RangeFuncSeq
set_option maxHeartbeats 16000000
set_option maxRecDepth 1000000
namespace Go.Proofs.YtldkpahaocjdpaaGreat
section
open Go.RowKit
theorem ydu (w:W8)(base:Nat)(ag:O8)(n cap:Nat)(K6:n<=1000)(out:List FG)(mz:n=out.length)(w1:W8)(hI:oq w base (.slice ag n cap) out w1)
  {Q:Exit->Act->W8->Prop} {c0 c1 c2 c3 c4 c5 c6 c7 c8 gD ll gy gV ie fO gW fD eG eL eM eN eO eQ eR eS eT eU eV eW fg fh fk fl fm fI fJ fK fP fQ fR fU fV fW dU fX fY fZ gd gh gi gP gQ fE jq jr js ee jt ju jv jw jx jy jz kc kf kg kh ki kj km kx ky kz kD kE kF kG kH kI iO iP iQ iR iS iT iU iV iW iX iY iZ ja jb jc jd je jf dm cj cq cx cy cz cA cC cK cL cM cN cO cP cQ cR cU cV cW cX cY cD cE cF cZ da dc dd de cG gE gF gG gH gI gJ gK gL gM gN gO fC:Value}
  (aT:∀ (rQ:List FG) (w2:W8) (u16 Bl DK Mb tj tm tr tu tw tz tA oT oU oV oW oX oY oZ o5 o6 o7 o8 pe pg tC tD tE ph pj pk pn po tF tG tH tI tJ tK tL tM tN tO tP tQ:Value),oq w base (.slice ag n cap) rQ w2->zdk rQ->rQ.Perm out->Q (.exit 4) ⟨List.toArray (c0::c1::c2::c3::c4::c5::c6::c7::c8::.slice ag n cap::gD::ll::gy::gV::ie::fO::u16::Bl::DK::Mb::eL::eM::eN::eO::eQ::eR::eS::eT::eU::eV::eW::fg::fh::fk::fl::fm::fI::fJ::fK::fP::fQ::fR::fU::fV::fW::dU::fX::fY::fZ::gd::gh::gi::gP::gQ::fE::jq::jr::js::ee::jt::ju::jv::jw::jx::jy::jz::kc::kf::kg::kh::ki::kj::km::kx::ky::kz::kD::kE::kF::kG::kH::kI::iO::iP::iQ::iR::iS::iT::iU::iV::iW::iX::iY::iZ::ja::jb::jc::jd::je::jf::dm::tj::tm::tr::tu::tw::tz::tA::oT::oU::oV::oW::oX::oY::oZ::o5::o6::o7::o8::pe::pg::tC::tD::tE::ph::pj::pk::pn::po::tF::tG::tH::tI::tJ::tK::tL::tM::tN::tO::tP::tQ::fC::[]),[]⟩ w2):
  Code.wp Tryz.prog (Code.loop (zw0 2)) Q ⟨List.toArray (c0::c1::c2::c3::c4::c5::c6::c7::c8::.slice ag n cap::gD::ll::gy::gV::ie::fO::.int .i64 1::gW::fD::eG::eL::eM::eN::eO::eQ::eR::eS::eT::eU::eV::eW::fg::fh::fk::fl::fm::fI::fJ::fK::fP::fQ::fR::fU::fV::fW::dU::fX::fY::fZ::gd::gh::gi::gP::gQ::fE::jq::jr::js::ee::jt::ju::jv::jw::jx::jy::jz::kc::kf::kg::kh::ki::kj::km::kx::ky::kz::kD::kE::kF::kG::kH::kI::iO::iP::iQ::iR::iS::iT::iU::iV::iW::iX::iY::iZ::ja::jb::jc::jd::je::jf::dm::cj::cq::cx::cy::cz::cA::cC::cK::cL::cM::cN::cO::cP::cQ::cR::cU::cV::cW::cX::cY::cD::cE::cF::cZ::da::dc::dd::de::cG::gE::gF::gG::gH::gI::gJ::gK::gL::gM::gN::gO::fC::[]),[]⟩ w1:=by
 conv=>arg 2;arg 1;whnf
 have HI:=zC hI;have HX:=zC aT;have MD:=zC mz;clear hI aT mz
 go_loopg [16] (n-1) (λ gg ii wr=>∃ (i:Nat) (zs C:List FG),gg=n-i/\ii=.int .i64 i/\i<=n+1/\1<=i/\oq w base (.slice ag n cap) (zs++C) wr/\zdk zs/\(zs++C).Perm out/\(zs.length=i\/out=[]))
 case atStart=>
  have hI:=zA HI
  cases out with
  | nil=>exact⟨1,[],[],rfl,rfl,by omega,Nat.le_refl _,hI,List.Pairwise.nil,List.Perm.refl _,.inr rfl⟩
  | cons y r=>
   exact⟨1,[y],r,rfl,rfl,by omega,Nat.le_refl _,hI,List.pairwise_singleton _ _,List.Perm.refl _,.inl rfl⟩
 case round=>
  clear HI;obtain⟨i,zs,C,M9,rfl,ax,hi1,hI,oa,bV,Nk⟩:=hrel;have hlen:(zs++C).length=n:=by rw[bV.length_eq,zA MD]
  by_cases kP:i<n
  ·have Cc:(i:Int)<n:=(by omega);have Nw:zs.length=i:=by
    rcases Nk with h | h
    ·exact h
    ·have:=zA MD;rw[h] at this;simp at this;omega
   cases C with
   | nil=>simp at hlen;omega
   | cons y C=>
    have HI:=zC hI;have uM:=zC oa;have HP:=zC bV;have HZ:=zC Nw;have wS:=zC hlen;clear hI oa bV Nw Nk hlen;go_wp2_with fail;refine ydv w base ag n cap K6 zs y C i (zA HZ) (zA wS).symm (zA uM) wr (zA HI) ?_;intro rQ w8;intros;rename_i hI8 Ih hP8;have BW:=zC hI8;have WC:=zC Ih;have Wp:=zC (show (rQ++C).Perm out from ((List.Perm.append_right C hP8).trans (by rw[List.append_assoc];exact List.Perm.refl _)).trans (zA HP));have V8:=zC (show rQ.length=i+1 by rw[hP8.length_eq,List.length_append,zA HZ];rfl);clear hI8 Ih hP8 HI uM HP HZ wS;go_wp2_with fail;go_roundg (n-(i+1));exact⟨i+1,rQ,C,rfl,by go_num,by omega,by omega,zA BW,zA WC,zA Wp,.inl (zA V8)⟩;omega
  ·have Xo:C=[]:=by
    rcases Nk with h | h
    ·rw[List.length_append] at hlen;exact List.eq_nil_of_length_eq_zero (by omega)
    ·rw[h] at bV;have:=bV.eq_nil;exact (List.append_eq_nil_iff.1 this).2
   subst Xo;rw[List.append_nil] at hI bV;have HI:=zC hI;have uM:=zC oa;have HP:=zC bV;clear hI oa bV Nk hlen;go_wp2_with fail;apply zA HX
   ·exact zA HI
   ·exact zA uM
   ·exact zA HP
structure Mi (w:W8)(l:List zP)(T:List zP × Bool)(v:Value)(out:List FG)(w':W8):Prop where
 facts:yZ w' w.heap.size v out
 eJ:out.length<=51
 below:Below w.heap.size w w'
 stop:T.2=true->out.map (·.F)=T.1
 perm:T.2=false->zdk out/\(out.map (·.F)).Perm T.1
def yaf (w:W8)(l:List zP)(T:List zP × Bool):Ending->W8->Prop:=λ e w'=>∃ v out,e=.returned v/\Mi w l T v out w'
theorem z4v (w:W8)(o:Nat)(rs:List RR)(ps:P9)(rv pv tv:Value)(gs:Nat)(S:Nat->Nat)(base:Nat)(fs:List FG)(al:O8)(cl:Nat)(hC:yea w o rs ps rv pv tv gs S base fs (.slice al fs.length cl))(s n:Nat):
  Calls Tryz.prog 196 #[.pointer (some ⟨o,0,none⟩),.slice al fs.length cl,.int .i64 s,.int .i64 n] w (yaf w (fs.map (·.F)) (vC (fs.map (·.F)) (j4 ps S (fs.map (·.F)) s n (rs.map (·.R)) 0) [])):=by
 have HC:=zC hC;have H0:=zC (show z54 w (.slice none 0 0) [] w from ⟨Below.refl _ _,World.ownsRow_nil _ _ _ _,by simp⟩);clear hC;go_enter Tryz.func196,Tryz.ntmps196;go_wp2_with fail;refine yds w o rs ps rv pv tv gs S base fs al cl (zA HC) s n w (zA H0) ?_ ?_
 ·intro v9 out w2;intros;rename_i hI hl hT;obtain⟨a9,c9,rfl⟩:=zD hI.out.row;have HI:=zC (show oq w w.heap.size (.slice a9 out.length c9) out w2 from ⟨hI.below,hI.out,Nat.le_refl _⟩);have HT:=zC hT;clear hI hT H0;go_wp2_with fail;refine ydu w w.heap.size a9 out.length c9 (by omega) out rfl w2 (zA HI) ?_;intro rQ w3;intros;rename_i gA Ty Ig;have hlen:=Ig.length_eq;have HF:=zC (show Mi w (fs.map (·.F)) (vC (fs.map (·.F)) (j4 ps S (fs.map (·.F)) s n (rs.map (·.R)) 0) []) (.slice a9 out.length c9) rQ w3 from ⟨gA.facts,by omega,gA.below,(λ h=>by rw[zA HT] at h;cases h),λ _=>⟨Ty,by rw[zA HT];exact Ig.map _⟩⟩);clear gA Ty Ig HI HT hlen;go_wp2_with fail;go_ret;exact⟨_,rQ,rfl,zA HF⟩
 ·intro v9 out w2;intros;rename_i hI hl hT;obtain⟨a9,c9,rfl⟩:=zD hI.out.row;have HF:=zC (show Mi w (fs.map (·.F)) (vC (fs.map (·.F)) (j4 ps S (fs.map (·.F)) s n (rs.map (·.R)) 0) []) (.slice a9 out.length c9) out w2 from ⟨hI.out,hl,hI.below,λ _=>by rw[hT],λ h=>by rw[hT] at h;cases h⟩);clear hI hT H0;go_ret;exact⟨_,out,rfl,zA HF⟩
end
section
open Go.RowKit
def zit (e:Env):Prop:=∀ p∈e,p.2.size<=1000
def zxs (ts:List xD):Prop:=∀ t∈ts,t.text.size<=1000
def zc5 (f:zP):Prop:=zxs f.aj.ae
structure zns (a:zL):Prop where
 pd:a.pred.size<=1000
 ts:zxs a.ae
 eJ:a.ae.length<=4
variable {e:Env}
theorem z6z (h:zit e)(n:B8):(zj3 e n).size<=1000:=by
 induction e with
 | nil=>simp[zj3,ByteArray.size]
 | cons x r ih=>
  rw[zj3]
  split
  ·exact h x List.mem_cons_self
  ·exact ih (λ p hp=>h p (List.mem_cons_of_mem _ hp))
theorem z13 (h:zit e){t:xD}(ht:t.text.size<=1000):(oh e t).size<=1000:=by
 unfold oh
 split
 ·exact z6z h _
 ·exact ht
theorem zja:∀ (ts us:List xD) (e e':Env),zit e->zxs us->jB e ts us=some e'->zit e'
 | [],us,e,e',h,_,hm=>by cases us <;> (rw[jB] at hm <;> first | (cases hm;exact h) | simp_all)
 | t::ts,[],e,e',h,_,hm=>by rw[jB] at hm <;> first | (cases hm;exact h) | simp_all
 | t::ts,u::us,e,e',h,hu,hm=>by
  have mj:zxs us:=λ x hx=>hu x (List.mem_cons_of_mem _ hx)
  rw[jB] at hm
  split at hm
  ·refine zja ts us _ _ (λ p hp=>?_) mj hm;rcases List.mem_append.1 hp with hp | hp
   ·exact h p hp
   ·rw[List.mem_singleton.1 hp];exact hu u List.mem_cons_self
  ·split at hm
   ·exact zja ts us _ _ h mj hm
   ·cases hm
theorem z3j {e':Env}{a t:zL}(h:zit e)(ht:zxs t.ae)(hm:qA e a t=some e'):zit e':=by
 unfold qA at hm
 split at hm
 ·exact zja _ _ _ _ h ht hm
 ·cases hm
theorem z5r {a:zL}{x:Way}(hx:zit x.1):∀ (l:List zP) (i:Nat),(∀ f∈l,zc5 f)->∀ y∈zht a x l i,zit y.1
 | [],_,_,y,hy=>by simp[zht] at hy
 | f::r,i,hl,y,hy=>by
  rw[zht,List.mem_append] at hy;rcases hy with hy | hy
  ·split at hy
   ·rename_i e he;rw[List.mem_singleton.1 hy];exact z3j hx (hl f List.mem_cons_self) he
   ·simp at hy
  ·exact z5r hx r (i+1) (λ g hg=>hl g (List.mem_cons_of_mem _ hg)) y hy
theorem z5u {l:List zP}(hl:∀ f∈l,zc5 f):∀ (b:List zL) (now:List Way),(∀ x∈now,zit x.1)->∀ y∈ziq l b now,zit y.1
 | [],now,h,y,hy=>h y hy
 | a::r,now,h,y,hy=>by
  rw[ziq] at hy;refine z5u hl r _ ?_ y hy
  split
  ·exact h
  ·intro x hx;obtain⟨z,hz,hx⟩:=List.mem_flatMap.1 hx;exact z5r (h z hz) l 0 hl x hx
variable {l:List zP}
theorem zxo (hl:∀ f∈l,zc5 f)(b:List zL):∀ y∈ziq l b [([],[])],zit y.1:=z5u hl b _ (λ x hx=>by rw[List.mem_singleton.1 hx];intro p hp;cases hp)
theorem zew:∀ (ts:List (Bool × B8)) (i:Nat),(∀ t∈ts,t.2.size<=1000)->(xJ ts i).length<=ts.length*1001
 | [],_,_=>by simp[xJ]
 | t::r,i,h=>by
  have h1:=zew r (i+1) (λ x hx=>h x (List.mem_cons_of_mem _ hx));have h2:=h t List.mem_cons_self;rw[xJ,List.length_cons,List.length_append,List.length_cons,Nat.succ_mul];have:t.2.data.toList.length=t.2.size:=jI _;omega
theorem z9x {a:zL}(he:zit e)(ha:zns a):zxs (fa e a).ae:=by
 intro t ht;obtain⟨u,hu,rfl⟩:=List.mem_map.1 ht;exact z13 he (ha.ts u hu)
theorem ybp {a:zL}(he:zit e)(ha:zns a):(jH (fa e a)).length<=1000000000:=by
 have h1:=zew ((fa e a).ae.map ed) 0 (λ t ht=>by
  obtain⟨u,hu,rfl⟩:=List.mem_map.1 ht
  exact z9x he ha u hu)
 have h2:(fa e a).ae.length=a.ae.length:=by simp[fa]
 have h3:=ha.eJ;have h4:=ha.pd;unfold jH zau;rw[List.length_map,h2] at h1;rw[List.length_append,List.length_append];have h5:(fa e a).pred.data.toList.length=a.pred.size:=jI _;have h6:(if ((fa e a).ae.map ed).length=0 then ([]:List UInt8) else [41]).length<=1:=by split <;> simp
 have h7:a.ae.length*1001<=4*1001:=Nat.mul_le_mul_right _ h3;omega
variable {out:List zP}
theorem yan {f:zP}(h:∀ x∈out,zc5 x)(hf:zc5 f):∀ x∈ztq l out f,zc5 x:=by
 intro x hx;unfold ztq at hx
 split at hx
 ·rcases List.mem_append.1 hx with hx | hx
  ·exact h x hx
  ·rw[List.mem_singleton.1 hx];exact hf
 ·exact h x hx
theorem zxd {l:List zP}:∀ (cs out:List zP),(∀ f∈cs,zc5 f)->(∀ x∈out,zc5 x)->∀ x∈(vC l cs out).1,zc5 x
 | [],out,_,h=>h
 | f::r,out,hc,h=>by
  rw[vC]
  split
  ·exact h
  ·exact zxd r _ (λ g hg=>hc g (List.mem_cons_of_mem _ hg)) (yan h (hc f List.mem_cons_self))
theorem zvw {ps:P9}{S:Nat->Nat}{l:List zP}{s n:Nat}(hl:∀ f∈l,zc5 f):∀ (rs:List zS) (i:Nat),(∀ R∈rs,∀ a∈R.head::R.body,zns a)->∀ f∈j4 ps S l s n rs i,zc5 f
 | [],_,_,f,hf=>by simp[j4] at hf
 | R::r,i,hr,f,hf=>by
  rw[j4,List.mem_append] at hf;rcases hf with hf | hf
  ·split at hf
   ·obtain⟨x,hx,rfl⟩:=List.mem_map.1 hf;exact z9x (zxo hl R.body x (List.mem_filter.1 hx).1) (hr R List.mem_cons_self _ List.mem_cons_self)
   ·simp at hf
  ·exact zvw hl r (i+1) (λ Q hQ=>hr Q (List.mem_cons_of_mem _ hQ)) f hf
def BN (ps:P9)(S:Nat->Nat)(rs:List zS)(l:List zP)(s n:Nat)(out:List zP):Prop:=
 ((vC l (j4 ps S l s n rs 0) []).2=true/\out=(vC l (j4 ps S l s n rs 0) []).1)\/((vC l (j4 ps S l s n rs 0) []).2=false/\out.Pairwise (λ x y=>jD y x=false)/\out.Perm (vC l (j4 ps S l s n rs 0) []).1)
inductive zbr (ps:P9)(S:Nat->Nat)(rs:List zS)(limit s:Nat):Nat->List zP->Option (List zP)->Prop
 | fG {n:Nat} {l out:List zP}:BN ps S rs l s n out->limit<l.length+out.length->zbr ps S rs limit s n l none
 | done {n:Nat} {l:List zP}:BN ps S rs l s n []->l.length<=limit->zbr ps S rs limit s n l (some l)
 | more {n:Nat} {l out:List zP} {r:Option (List zP)}:BN ps S rs l s n out->out≠[]->l.length+out.length<=limit->zbr ps S rs limit s (n+1) (l++out) r->zbr ps S rs limit s n l r
inductive zka (ps:P9)(S:Nat->Nat)(rs:List zS)(limit di:Nat):Nat->List zP->Option (List zP)->Prop
 | ends {s:Nat} {l:List zP}:di<s->zka ps S rs limit di s l (some l)
 | gX {s:Nat} {l:List zP}:s<=di->zbr ps S rs limit s 1 l none->zka ps S rs limit di s l none
 | next {s:Nat} {l l':List zP} {r:Option (List zP)}:s<=di->zbr ps S rs limit s 1 l (some l')->zka ps S rs limit di (s+1) l' r->zka ps S rs limit di s l r
variable {v:Value} {s n:Nat} {rs:List zS} {S:Nat->Nat} {ps:P9}
theorem Mi.rel {w:W8}{out:List FG}{w':W8}(h:Mi w l (vC l (j4 ps S l s n rs 0) []) v out w'):BN ps S rs l s n (out.map (·.F)):=by
 cases hT:(vC l (j4 ps S l s n rs 0) []).2 with
 | true=>exact .inl ⟨hT,h.stop hT⟩
 | false=>
  obtain⟨h1,h2⟩:=h.perm hT;exact .inr ⟨hT,List.pairwise_map.2 h1,h2⟩
theorem BN.ok (h:BN ps S rs l s n out)(hl:∀ f∈l,zc5 f)(hr:∀ R∈rs,∀ a∈R.head::R.body,zns a):∀ f∈out,zc5 f:=by
 have hk:=zxd (l:=l) (j4 ps S l s n rs 0) [] (zvw hl rs 0 hr) (by simp);rcases h with⟨_,rfl⟩ | ⟨_,_,hp⟩
 ·exact hk
 ·exact λ f hf=>hk f (hp.mem_iff.1 hf)
theorem yZ.app {wX W w5:W8}{base:Nat}{v':Value}{fs out:List FG}(h:yZ wX base v fs)(ho:∀ x∈out,qZ wX base x)(hW:zK [] wX W)(hg:W.grownBy w5 v.ownBlock)(ay:w5.ownsRow base 262 10 v' (fs.length+out.length) (fs.flatMap FG.cells++out.flatMap FG.cells)):yZ w5 base v' (fs++out):=by
 have k5:zK v.ownBlock.toList wX w5:=(hW.mono (by simp)).trans (zK.aR hg);have n1:∀ b∈v.ownBlock.toList,dW wX 317 b:=yH h.row (by decide);have n2:∀ b∈v.ownBlock.toList,dW wX 3 b:=yH h.row (by decide);refine⟨?_,λ y hy=>?_⟩
 ·rw[List.length_append,List.flatMap_append];exact ay
 ·rcases List.mem_append.1 hy with hy | hy
  ·exact (h.each y hy).bu k5 n1 n2
  ·exact (ho y hy).bu k5 n1 n2
end
section
open Go.RowKit Go.Maps Go.ChangeMaps Go.WideMaps
abbrev Th:=B8 × List B8
abbrev Th.p (t:Th):B8:=t.1
abbrev Th.ts (t:Th):List B8:=t.2
def xW (l:List B8)(i:Nat):B8:=(l[i]?).getD ⟨#[]⟩
def zV (t:Th):V8:=[.string t.p,.string (xW t.ts 0),.string (xW t.ts 1),.string (xW t.ts 2),.string (xW t.ts 3)]
def thV (t:Th):Value:=.agg (zV t).toArray
structure zdu (t:Th):Prop where
 pd:t.p.size<=1000000000
 eJ:t.ts.length<=4
 sz:∀ x∈t.ts,x.size<=1000000000
 ne:∀ x∈t.ts,0<x.size
variable {t:Th}
theorem ybn (h:zdu t)(i:Nat):(xW t.ts i).size<=1000000000:=by
 unfold xW;rcases Nat.lt_or_ge i t.ts.length with hi | hi
 ·rw[List.getElem?_eq_getElem hi];exact h.sz _ (List.getElem_mem hi)
 ·rw[List.getElem?_eq_none hi];simp[ByteArray.size]
variable {i:Nat}
theorem zpu (h:zdu t)(hi:i<t.ts.length):0<(xW t.ts i).size:=by
 unfold xW;rw[List.getElem?_eq_getElem hi];exact h.ne _ (List.getElem_mem hi)
theorem zl9 {l:List B8}(hi:l.length<=i):(xW l i).size=0:=by
 unfold xW;rw[List.getElem?_eq_none hi];rfl
variable {a:Th}
theorem z5f {b:Th}(ha:zdu a)(hb:zdu b)(h:thV a=thV b):a=b:=by
 obtain⟨p,ts⟩:=a;obtain⟨q,us⟩:=b;simp only[thV,zV,.agg.injEq,Array.mk.injEq,List.cons.injEq,.string.injEq,and_true] at h;obtain⟨hp,h0,h1,h2,h3⟩:=h;subst hp;have hn:∀ i,i<4->xW ts i=xW us i:=λ i hi=>by
  match i,hi with
  | 0,_=>exact h0
  | 1,_=>exact h1
  | 2,_=>exact h2
  | 3,_=>exact h3
 have hf:ts.length<=4:=ha.eJ;have hg:us.length<=4:=hb.eJ;have hl:ts.length=us.length:=by
  rcases Nat.lt_trichotomy ts.length us.length with h | h | h
  ·have e:=hn ts.length (by omega);have p1:0<(xW us ts.length).size:=zpu hb h;have p2:=zl9 (l:=ts) L9;rw[e] at p2;omega
  ·exact h
  ·have e:=hn us.length (by omega);have p1:0<(xW ts us.length).size:=zpu ha h;have p2:=zl9 (l:=us) L9;rw[<-e] at p2;omega
 congr 1
 refine List.ext_getElem hl λ i h1 h2=>?_
 have:=hn i (by omega);unfold xW at this;rw[List.getElem?_eq_getElem h1,List.getElem?_eq_getElem h2] at this;exact this
theorem zs8:ArrKey Tryz.prog 88 9 5:=⟨Tryz.underlying88,by kernel_rfl,by kernel_rfl,by kernel_rfl⟩
theorem yei:KeyLaw Tryz.prog 88:=zs8.law
theorem zdt:Keyed Tryz.prog 88:=Keyed.of_law yei
theorem zxi:∃ m,Tryz.prog.types.size=m+1:=⟨Tryz.prog.types.size-1,by have:0<Tryz.prog.types.size:=of_decide_eq_true (by kernel_rfl);omega⟩
theorem z80 (h:zdu t):∃ l,keyOf Tryz.prog 88 (thV t)=some l:=by
 have Yk:=zs8.keyType zxi;obtain⟨m,hm⟩:=zxi;have s0:t.p.size<=maxLen:=by have:=h.pd;unfold maxLen;omega
 have s1:∀ i,(xW t.ts i).size<=maxLen:=λ i=>by have:=ybn h i;unfold maxLen;omega
 unfold keyOf;simp only[zs8.hu];rw[if_pos (by simp[Yk,.formed,zs8.hu,zs8.size,thV,zV]),hm];unfold Program.keyLits;simp only[zs8.hu,thV,.cells];rw[if_pos (by rw[zs8.size];rfl),show List.range 5=[0,1,2,3,4] from rfl,List.mapM_cons,List.mapM_cons,List.mapM_cons,List.mapM_cons,List.mapM_cons,List.mapM_nil];simp[zs8.one,Program.keyLits,zV,Tryz.underlying9,s0,s1]
def yS (L:List (Th × Nat))(t:Th):Option Nat:=(L.find? λ p=>decide (p.1=t)).map (·.2)
def zjw (L:List (Th × Nat))(t:Th)(h:Nat):List (Th × Nat):=if (yS L t).isSome then L.map (λ p=>if p.1=t then (t,h) else p) else L++[(t,h)]
variable {n:Nat} {L:List (Th × Nat)}
theorem jV (h:yS L t=some n):(t,n)∈L:=by
 unfold yS at h;obtain⟨p,hp,rfl⟩:=Option.map_eq_some_iff.1 h;have h1:=List.mem_of_find?_eq_some hp;have h2:=List.find?_some hp;rw[<-of_decide_eq_true h2];exact h1
theorem qV (h:yS L t=none):∀ n,(t,n)∉L:=by
 intro n hn;unfold yS at h;rw[Option.map_eq_none_iff,List.find?_eq_none] at h;exact h _ hn (decide_eq_true rfl)
theorem za5 (hd:(L.map (·.1)).Nodup)(h:(t,n)∈L):yS L t=some n:=by
 cases hl:yS L t with
 | none=>exact absurd h (qV hl n)
 | some m=>
  have h1:=jV hl;have:∀ (L:List (Th × Nat)),(L.map (·.1)).Nodup->(t,n)∈L->(t,m)∈L->m=n:=by
   intro L
   induction L with
   | nil=>intro _ h;cases h
   | cons x r ih=>
    intro hd h1 h2;rw[List.map_cons,List.nodup_cons] at hd;rcases List.mem_cons.1 h1 with e1 | e1 <;> rcases List.mem_cons.1 h2 with e2 | e2
    ·have:=e1.trans e2.symm;injection this with _ this;exact this.symm
    ·exact absurd (List.mem_map_of_mem (f:=Prod.fst) e2) (by rw[<-e1] at hd;exact hd.1)
    ·exact absurd (List.mem_map_of_mem (f:=Prod.fst) e1) (by rw[<-e2] at hd;exact hd.1)
    ·exact ih hd.2 e1 e2
  rw[this L hd h h1]
def qR (w:W8)(b:Nat)(L:List (Th × Nat)):Prop:=
 ∃ D:DataW Value,w.ownsMap Tryz.prog 88 jP b L.length D/\Maps.size D=L.length/\(L.map (·.1)).Nodup/\(∀ p∈L,zdu p.1) /\
  (∀ p∈L,∀ l,keyOf Tryz.prog 88 (thV p.1)=some l->Maps.has D l=true/\∀ z,D.atKey l z=.held (.int .i64 p.2)) /\
  (∀ l,Maps.has D l=true->∃ p∈L,keyOf Tryz.prog 88 (thV p.1)=some l)
theorem qR.made (w:W8):qR (w.alloc (.map #[] 0)) w.heap.size []:=
 ⟨.map [],World.ownsMap_made w _ _ jP,rfl,by simp,by simp,by simp,λ l h=>by cases h⟩
variable {b:Nat} {w:W8}
theorem qR.lt (h:qR w b L):b<w.heap.size:=by obtain⟨D,hD,_⟩:=h;exact hD.lt
theorem qR.ok (h:qR w b L):∀ p∈L,zdu p.1:=by obtain⟨D,_,_,_,h,_⟩:=h;exact h
theorem qR.nodup (h:qR w b L):(L.map (·.1)).Nodup:=by obtain⟨D,_,_,h,_⟩:=h;exact h
theorem qR.kept {w w':W8}{b:Nat}{L:List (Th × Nat)}{row:Option Nat}(h:qR w b L)(hg:w.grownBy w' row)(hr:some b≠row):qR w' b L:=by
 obtain⟨D,hD,h⟩:=h;exact⟨D,hD.kept hg hr,h⟩
variable {w':W8}
theorem qR.block (h:qR w b L)(hb:w'.heap[b]?=w.heap[b]?):qR w' b L:=by
 obtain⟨D,⟨es,clock,h1,h2⟩,h3⟩:=h;exact⟨D,⟨es,clock,hb.trans h1,h2⟩,h3⟩
theorem qR.alloc (h:qR w b L)(o:Obj):qR (w.alloc o) b L:=h.kept (World.grownBy_alloc w o none) (by simp)
theorem qR.isMap (h:qR w b L):∃ es clock,w.heap[b]?=some (.map es clock):=by
 obtain⟨D,⟨es,clock,h1,_⟩,_⟩:=h;exact⟨es,clock,h1⟩
theorem zfu {b:Th}{l:Lit}(ha:zdu a)(hb:zdu b)(h1:keyOf Tryz.prog 88 (thV a)=some l)(h2:keyOf Tryz.prog 88 (thV b)=some l):a=b:=z5f ha hb (zdt.inj h1 h2)
theorem qR.look (h:qR w b L)(ht:zdu t){T:TypeId}(hT:Tryz.prog.underlying T=some (.map 88 3)):
  (Instr.lookup T (.map (some b)) (thV t) true).run Tryz.prog w=.ok (.tuple #[.int .i64 (((yS L t).getD 0:Nat):Int),.bool (yS L t).isSome]) w:=by
 obtain⟨D,hD,hs,hn,bR,aS,ib⟩:=h;obtain⟨l,hl⟩:=z80 ht;obtain⟨v,ps,kU,hv⟩:=hD.look_ok zdt hT (z:=.int .i64 0) (by kernel_rfl) (zd:=.held (.int .i64 0)) (zp:=[]) rfl hl;have h1:=zf8 hv
 cases hk:yS L t with
 | some n=>
  obtain⟨h2,h3⟩:=aS _ (jV hk) l hl;rw[h3] at h1;have h1:=DataW.held.inj h1;subst h1;rw[h2] at kU;exact kU
 | none=>
  have h2:Maps.has D l=false:=by
   cases hh:Maps.has D l with
   | false=>rfl
   | true=>
    obtain⟨p,hp,bt⟩:=ib l hh;have e:=zfu (bR p hp) ht bt hl;exact absurd (show (t,p.2)∈L by rw[<-e];exact hp) (qV hk _)
  rw[Maps.atKey_of_not_has h2] at h1;have h1:=DataW.held.inj h1;subst h1;rw[h2] at kU;exact kU
theorem zml (L:List (Th × Nat))(t:Th)(n:Nat):(zjw L t n).length=if (yS L t).isSome then L.length else L.length+1:=by
 unfold zjw
 split <;> simp
theorem zkn {p:Th × Nat}(h:p∈zjw L t n):p=(t,n)\/(p∈L/\p.1≠t):=by
 unfold zjw at h
 split at h
 ·obtain⟨q,hq,rfl⟩:=List.mem_map.1 h
  split
  ·exact .inl rfl
  ·rename_i bF;exact .inr ⟨hq,bF⟩
 ·rename_i bF;rcases List.mem_append.1 h with h | h
  ·refine .inr ⟨h,λ e=>?_⟩;have aX:yS L t=none:=(by simpa using bF);exact qV aX p.2 (by rw[<-e];exact h)
  ·exact .inl (List.mem_singleton.1 h)
theorem RN (L:List (Th × Nat))(t:Th)(n:Nat):(t,n)∈zjw L t n:=by
 unfold zjw
 split
 ·rename_i h;obtain⟨m,hm⟩:=Option.isSome_iff_exists.1 h;exact List.mem_map.2 ⟨_,jV hm,by simp⟩
 ·simp
theorem zgv {p:Th × Nat}(h:p∈L)(bF:p.1≠t):p∈zjw L t n:=by
 unfold zjw
 split
 ·exact List.mem_map.2 ⟨p,h,by simp[bF]⟩
 ·exact List.mem_append_left _ h
theorem z4o:(zjw L t n).map (·.1)=if (yS L t).isSome then L.map (·.1) else L.map (·.1)++[t]:=by
 unfold zjw
 split
 ·rw[List.map_map];refine List.map_congr_left λ p _=>?_
  simp only[Function.comp]
  split
  ·rename_i e;exact e.symm
  ·rfl
 ·simp
theorem Ml (h:(L.map (·.1)).Nodup):((zjw L t n).map (·.1)).Nodup:=by
 rw[z4o]
 split
 ·exact h
 ·rename_i bF;refine List.nodup_append.2 ⟨h,by simp,λ a ha b hb=>?_⟩;rw[List.mem_singleton.1 hb];rintro rfl;obtain⟨p,hp,e⟩:=List.mem_map.1 ha;have aX:yS L a=none:=by simpa using bF
  exact qV aX p.2 (by rw[<-e];exact hp)
theorem zpv {P:Program}{K:TypeId}{D:DataW Value}(h:w.ownsMap P K jP b n D):w.ownsMap P K jP b (Maps.size D) D:=by
 obtain⟨es,clock,hb,F,hs,rfl⟩:=h;exact⟨es,clock,hb,F,by simp[Maps.size,length_sorted],rfl⟩
theorem qR.put {w:W8}{b:Nat}{L:List (Th × Nat)}(h:qR w b L){t:Th}(ht:zdu t)(n:Nat)(hL:L.length<maxLen){T:TypeId}(hT:Tryz.prog.underlying T=some (.map 88 3)):
  ∃ w',(Instr.mapUpdate T (.map (some b)) (thV t) (.int .i64 n)).run Tryz.prog w=.ok () w'/\qR w' b (zjw L t n)/\w.mapTurned w' b:=by
 obtain⟨D,hD,hs,hn,bR,aS,ib⟩:=h;obtain⟨l,hl⟩:=z80 ht;obtain⟨w',kU,ay,LA⟩:=hD.store zdt hT hL hl (val:=.int .i64 n) (d:=.held (.int .i64 n)) (ps:=[]) rfl;have dF:=zdt.key hl;have F3:Maps.has D l=(yS L t).isSome:=by
  cases hk:yS L t with
  | some m=>exact (aS _ (jV hk) l hl).1
  | none=>
   cases hh:Maps.has D l with
   | false=>rfl
   | true=>
    obtain⟨p,hp,bt⟩:=ib l hh;have e:=zfu (bR p hp) ht bt hl;exact absurd (show (t,p.2)∈L by rw[<-e];exact hp) (qV hk _)
 have bj:Maps.size (D.put l (.held (.int .i64 n)))=(zjw L t n).length:=by
  rw[Maps.size_put (hD.tidy zdt),F3,zml,hs]
 refine⟨w',kU,⟨_,?_,bj,Ml hn,λ p hp=>?_,λ p hp l' nU=>?_,λ l' nU=>?_⟩,LA⟩
 ·rw[<-bj];exact zpv ay
 ·rcases zkn hp with rfl | ⟨hp,_⟩
  ·exact ht
  ·exact bR p hp
 ·rcases zkn hp with rfl | ⟨hp,bF⟩
  ·have e:l'=l:=Option.some.inj (nU.symm.trans hl);subst e;exact⟨Maps.has_put_same hD.isMap dF _,λ z=>Maps.atKey_put_same hD.isMap dF _ _⟩
  ·have Gp:l'≠l:=λ e=>bF (zfu (bR p hp) ht (e ▸ nU) hl)
   obtain⟨h1,h2⟩:=aS p hp l' nU;exact⟨(Maps.has_put_other Gp _).trans h1,λ z=>(Maps.atKey_put_other Gp _ _).trans (h2 z)⟩
 ·by_cases e:l'=l
  ·subst e;exact⟨_,RN L t n,hl⟩
  ·rw[Maps.has_put_other e] at nU;obtain⟨p,hp,bt⟩:=ib l' nU;exact⟨p,zgv hp (λ e'=>e (Option.some.inj ((e' ▸ bt).symm.trans hl))),bt⟩
theorem qR.len {w:W8}{b:Nat}{L:List (Th × Nat)}(h:qR w b L){T:TypeId}(hT:Tryz.prog.underlying T=some (.map 88 3))(ty:TypeId):(Builtin.len_ #[T] ty #[.map (some b)]).run Tryz.prog w=.ok (.int .i64 (L.length:Nat)) w:=by
 obtain⟨D,hD,hs,_⟩:=h;rw[hD.len hT ty,hs]
def so (w:W8)(b r:Nat)(L:List (Th × Nat))(Lf:Th->Prop)(eC:Nat):Prop:=
 ∃ (D:DataW Value) (left:Lit->Bool),w.ranges Tryz.prog 88 jP b r L.length D left eC/\Maps.size D=L.length/\(L.map (·.1)).Nodup/\(∀ p∈L,zdu p.1) /\
  (∀ p∈L,∀ l,keyOf Tryz.prog 88 (thV p.1)=some l->Maps.has D l=true/\∀ z,D.atKey l z=.held (.int .i64 p.2)) /\
  (∀ l,Maps.has D l=true->∃ p∈L,keyOf Tryz.prog 88 (thV p.1)=some l) /\
  (∀ p∈L,∀ l,keyOf Tryz.prog 88 (thV p.1)=some l->(left l=true↔Lf p.1))
variable {eC r:Nat} {Lf:Th->Prop}
theorem so.map (h:so w b r L Lf eC):qR w b L:=by
 obtain⟨D,left,h1,h2,h3,h4,h5,h6,_⟩:=h;exact⟨D,h1.owns,h2,h3,h4,h5,h6⟩
theorem so.lt {w:W8}{b r:Nat}{L:List (Th × Nat)}{Lf:Th->Prop}{eC:Nat}(h:so w b r L Lf eC):r<w.heap.size:=by
 obtain⟨D,left,h1,_⟩:=h;exact h1.lt
theorem so.blocks (h:so w b r L Lf eC)(hb:w'.heap[b]?=w.heap[b]?)(hr:w'.heap[r]?=w.heap[r]?):so w' b r L Lf eC:=by
 obtain⟨D,left,⟨es,clock,since,seen,c0,h1,F,hs,hD,h2,rest⟩,h3⟩:=h;exact⟨D,left,⟨es,clock,since,seen,c0,hb.trans h1,F,hs,hD,hr.trans h2,rest⟩,h3⟩
theorem so.iter (h:so w b r L Lf eC):∃ o:Obj,w.heap[r]?=some o/\o.isWalk=true:=by
 obtain⟨D,left,⟨es,clock,since,seen,c0,_,_,_,_,h2,_⟩,_⟩:=h;exact⟨_,h2,rfl⟩
section
variable (w:W8) {ops:Array Oper} {rest:List Oper} {o:Oper} {a:Act} {Q:Exit->Act->W8->Prop}
theorem znb (hg:o.guard=none)(m:Operand)(t:TypeId)(pE:o.op=Op.range t m)(ht:Tryz.prog.underlying t=some (.map 88 3))(b:Nat)(L:List (Th × Nat))
  (hm:a.eval m=.map (some b)) (ay:qR w b L)
  (hQ:∀ w',so w' b w.heap.size L (λ _=>True) L.length->w.grownBy w' none->w'.heap.size=w.heap.size+1->wpList Tryz.prog ops Q rest (a.put o.dst (.pointer (some ⟨w.heap.size,0,none⟩))) w'):
  wpList Tryz.prog ops Q (o::rest) a w:=by
 obtain⟨D,hD,hs,hn,bR,aS,ib⟩:=ay;refine wpList_range_own w hg m t pE 88 3 zdt ht jP b L.length D hm hD λ w' h1 h2 mh=>hQ w' ⟨D,_,by rw[<-hs] at h1 ⊢;exact h1,hs,hn,bR,aS,ib,λ p hp l hl=>?_⟩ h2 mh
 exact⟨λ _=>trivial,λ _=>(aS p hp l hl).1⟩
theorem zqi (hg:o.guard=none)(it:Operand)(pE:o.op=Op.next it false)(b r:Nat)(L:List (Th × Nat))(Lf:Th->Prop)(eC:Nat)
  (P1:a.eval it=.pointer (some ⟨r,0,none⟩)) (h:so w b r L Lf eC)
  (ze:(∀ p∈L,¬ Lf p.1)->wpList Tryz.prog ops Q rest (a.put o.dst (.tuple #[.bool false])) w)
  (zg:∀ (t:Th) (n:Nat) (w':W8) (oA:Nat),(t,n)∈L->Lf t->so w' b r L (λ x=>Lf x/\x≠t) oA->oA<eC->w.grownBy w' (some r)->w'.heap.size=w.heap.size ->
   (Instr.entry (.pointer (some ⟨r,0,none⟩))).run Tryz.prog w'=.ok (.tuple #[thV t,.int .i64 n]) w'->wpList Tryz.prog ops Q rest (a.put o.dst (.tuple #[.bool true,thV t,.int .i64 n])) w'):
  wpList Tryz.prog ops Q (o::rest) a w:=by
 obtain⟨D,left,h1,hs,hn,bR,aS,ib,qx⟩:=h;refine wpList_next_ranges w hg it pE 88 zdt jP (id:Value->Value) (id:Value->Value) (λ key kl _=>⟨key,rfl⟩) (λ v y _=>⟨v,rfl⟩) b r L.length D left eC P1 h1
  (λ _ hl=>ze λ p hp hf=>?_) ?_
 ·obtain⟨l,hk⟩:=z80 (bR p hp);have:=(qx p hp l hk).2 hf;rw[hl] at this;cases this
 intro x c kl y w' oA hkey aF hv du oL aH mP bj xh;have F3:Maps.has D kl=true:=Maps.has_true_of_atKey du;obtain⟨p,hp,bt⟩:=ib kl F3;have hx:x=thV p.1:=zdt.inj hkey bt;have hy:=zf8 (v:=c) (d:=y.1) (ps:=y.2) hv;have hc:c=.int .i64 p.2:=by
  have e1:=du (.held undef);rw[(aS p hp kl bt).2,hy] at e1;exact (DataW.held.inj e1).symm
 subst hx hc;refine zg p.1 p.2 w' oA hp ((qx p hp kl bt).1 aF) ⟨D,_,oL,hs,hn,bR,aS,ib,λ q hq l hl=>?_⟩ aH mP bj xh;rw[Bool.and_eq_true,qx q hq l hl,Bool.not_eq_true'];refine and_congr_right λ _=>⟨λ hs e=>?_,λ bF=>Maps.sameKey_ne λ e=>bF (zfu (bR q hq) (bR p hp) (e ▸ hl) bt)⟩
 rw[e] at hl;have hl:=Option.some.inj (bt.symm.trans hl);rw[<-hl,WideAt.sameKey_self (zdt.key bt)] at hs
 cases hs
theorem z50 (hg:o.guard=none)(m x v:Operand)(t:TypeId)(pE:o.op=Op.mapUpdate t m x v)(ht:Tryz.prog.underlying t=some (.map 88 3))(b:Nat)(L:List (Th × Nat))
  (hm:a.eval m=.map (some b)) (ay:qR w b L) (hn:L.length<maxLen) (th:Th) (n:Nat) (hx:a.eval x=thV th) (hv:a.eval v=.int .i64 n) (oO:zdu th)
  (hQ:∀ w',qR w' b (zjw L th n)->w.mapTurned w' b->wpList Tryz.prog ops Q rest (a.put o.dst undef) w'):
  wpList Tryz.prog ops Q (o::rest) a w:=by
 refine wpList_plain hg λ K' Ie=>?_
 obtain⟨w',kU,h1,h2⟩:=ay.put oO n hn ht;unfold Oper.wp;simp[execOp,pE,hm,hx,hv,kU,Result.andThen];exact Ie _ _ (hQ w' h1 h2)
end
end
end Go.Proofs.YtldkpahaocjdpaaGreat
