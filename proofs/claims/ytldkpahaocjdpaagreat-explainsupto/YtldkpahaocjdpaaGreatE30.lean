/-
  The reference's round, whole.
-/
import Derived.Test.YtldkpahaocjdpaaGreatE29
import Derived.DeepKeys4
import Derived.WideKeyArr
import Derived.RangeFuncSeq
set_option maxHeartbeats 16000000
set_option maxRecDepth 1000000
namespace Go.Proofs.YtldkpahaocjdpaaGreat
section
open Go.RowKit
theorem ydy (w:W8)(base:Nat)(ag:O8)(n cap:Nat)(Jq:n<=1000)(out:List FG)(mB:n=out.length)(w1:W8)(hI:oa w base (.slice ag n cap) out w1)
  {Q:Exit->Act->W8->Prop} {c0 c1 c2 c3 c4 c5 c6 c7 c8 gS lI gy gV ij gw gZ fE eH eZ fc eW eT eL eV eX eY eO eR eQ fh fj fo ft fk fJ fL fI fY fQ fO gq fV gu dT gd fM gn fP fN fZ gN gQ fG jv jq jr ee kf jt km kg jw ju ko kc jz jy kq js jx ki kH kL kR kD kI kX kZ kr kz iZ jh iW iV iT iO jm iP jf jl jo iQ jd jb je iY jc ji dq cF cC cx cE cA cD cy cM cU de cL cN cK dg cZ cO da cR dc cJ cG cH cj cW cV cP cX dd cq gR gI gG gO gH gE gM gJ gF gC gK fH:Value}
  (aT:∀ (qe:List FG) (w2:W8) (u16 A0 Cv Ji sX tD sy ud tQ sL sI oA oB o8 oI pg oG oD oX oZ oP oQ ov oY ub te sO ox o7 oO po oz sY tf tS tU tT tm tX tu tA sD sV tO:Value),oa w base (.slice ag n cap) qe w2->zds qe->qe.Perm out->Q (.exit 4) ⟨List.toArray (c0::c1::c2::c3::c4::c5::c6::c7::c8::.slice ag n cap::gS::lI::gy::gV::ij::gw::u16::A0::Cv::Ji::eZ::fc::eW::eT::eL::eV::eX::eY::eO::eR::eQ::fh::fj::fo::ft::fk::fJ::fL::fI::fY::fQ::fO::gq::fV::gu::dT::gd::fM::gn::fP::fN::fZ::gN::gQ::fG::jv::jq::jr::ee::kf::jt::km::kg::jw::ju::ko::kc::jz::jy::kq::js::jx::ki::kH::kL::kR::kD::kI::kX::kZ::kr::kz::iZ::jh::iW::iV::iT::iO::jm::iP::jf::jl::jo::iQ::jd::jb::je::iY::jc::ji::dq::sX::tD::sy::ud::tQ::sL::sI::oA::oB::o8::oI::pg::oG::oD::oX::oZ::oP::oQ::ov::oY::ub::te::sO::ox::o7::oO::po::oz::sY::tf::tS::tU::tT::tm::tX::tu::tA::sD::sV::tO::fH::[]),[]⟩ w2):
  Code.wp Tryz.prog (Code.loop (zvn 2)) Q ⟨List.toArray (c0::c1::c2::c3::c4::c5::c6::c7::c8::.slice ag n cap::gS::lI::gy::gV::ij::gw::.int .i64 1::gZ::fE::eH::eZ::fc::eW::eT::eL::eV::eX::eY::eO::eR::eQ::fh::fj::fo::ft::fk::fJ::fL::fI::fY::fQ::fO::gq::fV::gu::dT::gd::fM::gn::fP::fN::fZ::gN::gQ::fG::jv::jq::jr::ee::kf::jt::km::kg::jw::ju::ko::kc::jz::jy::kq::js::jx::ki::kH::kL::kR::kD::kI::kX::kZ::kr::kz::iZ::jh::iW::iV::iT::iO::jm::iP::jf::jl::jo::iQ::jd::jb::je::iY::jc::ji::dq::cF::cC::cx::cE::cA::cD::cy::cM::cU::de::cL::cN::cK::dg::cZ::cO::da::cR::dc::cJ::cG::cH::cj::cW::cV::cP::cX::dd::cq::gR::gI::gG::gO::gH::gE::gM::gJ::gF::gC::gK::fH::[]),[]⟩ w1:=by
 conv=>arg 2;arg 1;whnf
 have HI:=zC hI;have HX:=zC aT;have Nk:=zC mB;clear hI aT mB
 go_loopg [16] (n-1) (λ gg ii wr=>∃ (i:Nat) (zs C:List FG),gg=n-i/\ii=.int .i64 i/\i<=n+1/\1<=i/\oa w base (.slice ag n cap) (zs++C) wr/\zds zs/\(zs++C).Perm out/\(zs.length=i\/out=[]))
 case atStart=>
  have hI:=zA HI
  cases out with
  | nil=>exact⟨1,[],[],rfl,rfl,by omega,Nat.le_refl _,hI,List.Pairwise.nil,List.Perm.refl _,.inr rfl⟩
  | cons y r=>
   exact⟨1,[y],r,rfl,rfl,by omega,Nat.le_refl _,hI,List.pairwise_singleton _ _,List.Perm.refl _,.inl rfl⟩
 case round=>
  clear HI;obtain⟨i,zs,C,Ny,rfl,ax,hi1,hI,n9,bV,NR⟩:=hrel;have hlen:(zs++C).length=n:=by rw[bV.length_eq,zA Nk]
  by_cases ku:i<n
  ·have Cc:(i:Int)<n:=(by omega);have NH:zs.length=i:=by
    rcases NR with h | h
    ·exact h
    ·have:=zA Nk;rw[h] at this;simp at this;omega
   cases C with
   | nil=>simp at hlen;omega
   | cons y C=>
    have HI:=zC hI;have va:=zC n9;have HP:=zC bV;have HZ:=zC NH;have wU:=zC hlen;clear hI n9 bV NH NR hlen;go_wp2_with fail;refine ydn w base ag n cap Jq zs y C i (zA HZ) (zA wU).symm (zA va) wr (zA HI) ?_;intro qe w8;intros;rename_i hI8 Hz hP8;have B3:=zC hI8;have VH:=zC Hz;have Wv:=zC (show (qe++C).Perm out from ((List.Perm.append_right C hP8).trans (by rw[List.append_assoc];exact List.Perm.refl _)).trans (zA HP));have XT:=zC (show qe.length=i+1 by rw[hP8.length_eq,List.length_append,zA HZ];rfl);clear hI8 Hz hP8 HI va HP HZ wU;go_wp2_with fail;go_roundg (n-(i+1));exact⟨i+1,qe,C,rfl,by go_num,by omega,by omega,zA B3,zA VH,zA Wv,.inl (zA XT)⟩;omega
  ·have Zp:C=[]:=by
    rcases NR with h | h
    ·rw[List.length_append] at hlen;exact List.eq_nil_of_length_eq_zero (by omega)
    ·rw[h] at bV;have:=bV.eq_nil;exact (List.append_eq_nil_iff.1 this).2
   subst Zp;rw[List.append_nil] at hI bV;have HI:=zC hI;have va:=zC n9;have HP:=zC bV;clear hI n9 bV NR hlen;go_wp2_with fail;apply zA HX
   ·exact zA HI
   ·exact zA va
   ·exact zA HP
structure LN (w:W8)(l:List zP)(T:List zP × Bool)(v:Value)(out:List FG)(w':W8):Prop where
 facts:xB w' w.heap.size v out
 eJ:out.length<=51
 below:Below w.heap.size w w'
 stop:T.2=true->out.map (·.F)=T.1
 perm:T.2=false->zds out/\(out.map (·.F)).Perm T.1
def yaa (w:W8)(l:List zP)(T:List zP × Bool):Ending->W8->Prop:=λ e w'=>∃ v out,e=.returned v/\LN w l T v out w'
theorem z1t (w:W8)(o:Nat)(rs:List RR)(ps:P9)(rv pv tv:Value)(gs:Nat)(S:Nat->Nat)(base:Nat)(fs:List FG)(al:O8)(cl:Nat)(hC:yeg w o rs ps rv pv tv gs S base fs (.slice al fs.length cl))(s n:Nat):
  Calls Tryz.prog 196 #[.pointer (some ⟨o,0,none⟩),.slice al fs.length cl,.int .i64 s,.int .i64 n] w (yaa w (fs.map (·.F)) (vB (fs.map (·.F)) (j1 ps S (fs.map (·.F)) s n (rs.map (·.R)) 0) [])):=by
 have HC:=zC hC;have H0:=zC (show z51 w (.slice none 0 0) [] w from ⟨Below.refl _ _,World.ownsRow_nil _ _ _ _,by simp⟩);clear hC;go_enter Tryz.func196,Tryz.ntmps196;go_wp2_with fail;refine yc6 w o rs ps rv pv tv gs S base fs al cl (zA HC) s n w (zA H0) ?_ ?_
 ·intro v9 out w2;intros;rename_i hI hl hT;obtain⟨a9,c9,rfl⟩:=zD hI.out.row;have HI:=zC (show oa w w.heap.size (.slice a9 out.length c9) out w2 from ⟨hI.below,hI.out,Nat.le_refl _⟩);have HT:=zC hT;clear hI hT H0;go_wp2_with fail;refine ydy w w.heap.size a9 out.length c9 (by omega) out rfl w2 (zA HI) ?_;intro qe w3;intros;rename_i gz TQ Iy;have hlen:=Iy.length_eq;have HF:=zC (show LN w (fs.map (·.F)) (vB (fs.map (·.F)) (j1 ps S (fs.map (·.F)) s n (rs.map (·.R)) 0) []) (.slice a9 out.length c9) qe w3 from ⟨gz.facts,by omega,gz.below,(λ h=>by rw[zA HT] at h;cases h),λ _=>⟨TQ,by rw[zA HT];exact Iy.map _⟩⟩);clear gz TQ Iy HI HT hlen;go_wp2_with fail;go_ret;exact⟨_,qe,rfl,zA HF⟩
 ·intro v9 out w2;intros;rename_i hI hl hT;obtain⟨a9,c9,rfl⟩:=zD hI.out.row;have HF:=zC (show LN w (fs.map (·.F)) (vB (fs.map (·.F)) (j1 ps S (fs.map (·.F)) s n (rs.map (·.R)) 0) []) (.slice a9 out.length c9) out w2 from ⟨hI.out,hl,hI.below,λ _=>by rw[hT],λ h=>by rw[hT] at h;cases h⟩);clear hI hT H0;go_ret;exact⟨_,out,rfl,zA HF⟩
end
section
open Go.RowKit
def zi2 (e:Env):Prop:=∀ p∈e,p.2.size<=1000
def zzr (ts:List xE):Prop:=∀ t∈ts,t.text.size<=1000
def zc6 (f:zP):Prop:=zzr f.aj.ae
structure zn4 (a:zL):Prop where
 pd:a.pred.size<=1000
 ts:zzr a.ae
 eJ:a.ae.length<=4
variable {e:Env}
theorem z8f (h:zi2 e)(n:B8):(zj6 e n).size<=1000:=by
 induction e with
 | nil=>simp[zj6,ByteArray.size]
 | cons x r ih=>
  rw[zj6]
  split
  ·exact h x List.mem_cons_self
  ·exact ih (λ p hp=>h p (List.mem_cons_of_mem _ hp))
theorem z08 (h:zi2 e){t:xE}(ht:t.text.size<=1000):(nT e t).size<=1000:=by
 unfold nT
 split
 ·exact z8f h _
 ·exact ht
theorem zje:∀ (ts us:List xE) (e e':Env),zi2 e->zzr us->jB e ts us=some e'->zi2 e'
 | [],us,e,e',h,_,hm=>by cases us <;> (rw[jB] at hm <;> first | (cases hm;exact h) | simp_all)
 | t::ts,[],e,e',h,_,hm=>by rw[jB] at hm <;> first | (cases hm;exact h) | simp_all
 | t::ts,u::us,e,e',h,hu,hm=>by
  have lU:zzr us:=λ x hx=>hu x (List.mem_cons_of_mem _ hx)
  rw[jB] at hm
  split at hm
  ·refine zje ts us _ _ (λ p hp=>?_) lU hm;rcases List.mem_append.1 hp with hp | hp
   ·exact h p hp
   ·rw[List.mem_singleton.1 hp];exact hu u List.mem_cons_self
  ·split at hm
   ·exact zje ts us _ _ h lU hm
   ·cases hm
variable {a:zL}
theorem z0y {e':Env}{t:zL}(h:zi2 e)(ht:zzr t.ae)(hm:qA e a t=some e'):zi2 e':=by
 unfold qA at hm
 split at hm
 ·exact zje _ _ _ _ h ht hm
 ·cases hm
theorem z13 {a:zL}{x:Way}(hx:zi2 x.1):∀ (l:List zP) (i:Nat),(∀ f∈l,zc6 f)->∀ y∈zht a x l i,zi2 y.1
 | [],_,_,y,hy=>by simp[zht] at hy
 | f::r,i,hl,y,hy=>by
  rw[zht,List.mem_append] at hy;rcases hy with hy | hy
  ·split at hy
   ·rename_i e he;rw[List.mem_singleton.1 hy];exact z0y hx (hl f List.mem_cons_self) he
   ·simp at hy
  ·exact z13 hx r (i+1) (λ g hg=>hl g (List.mem_cons_of_mem _ hg)) y hy
theorem z3s {l:List zP}(hl:∀ f∈l,zc6 f):∀ (b:List zL) (now:List Way),(∀ x∈now,zi2 x.1)->∀ y∈zip l b now,zi2 y.1
 | [],now,h,y,hy=>h y hy
 | a::r,now,h,y,hy=>by
  rw[zip] at hy;refine z3s hl r _ ?_ y hy
  split
  ·exact h
  ·intro x hx;obtain⟨z,hz,hx⟩:=List.mem_flatMap.1 hx;exact z13 (h z hz) l 0 hl x hx
variable {l:List zP}
theorem zxm (hl:∀ f∈l,zc6 f)(b:List zL):∀ y∈zip l b [([],[])],zi2 y.1:=z3s hl b _ (λ x hx=>by rw[List.mem_singleton.1 hx];intro p hp;cases hp)
theorem zey:∀ (ts:List (Bool × B8)) (i:Nat),(∀ t∈ts,t.2.size<=1000)->(xK ts i).length<=ts.length*1001
 | [],_,_=>by simp[xK]
 | t::r,i,h=>by
  have h1:=zey r (i+1) (λ x hx=>h x (List.mem_cons_of_mem _ hx));have h2:=h t List.mem_cons_self;rw[xK,List.length_cons,List.length_append,List.length_cons,Nat.succ_mul];have:t.2.data.toList.length=t.2.size:=jH _;omega
theorem z89 (he:zi2 e)(ha:zn4 a):zzr (eN e a).ae:=by
 intro t ht;obtain⟨u,hu,rfl⟩:=List.mem_map.1 ht;exact z08 he (ha.ts u hu)
theorem yav (he:zi2 e)(ha:zn4 a):(jG (eN e a)).length<=1000000000:=by
 have h1:=zey ((eN e a).ae.map ed) 0 (λ t ht=>by
  obtain⟨u,hu,rfl⟩:=List.mem_map.1 ht
  exact z89 he ha u hu)
 have h2:(eN e a).ae.length=a.ae.length:=by simp[eN]
 have h3:=ha.eJ;have h4:=ha.pd;unfold jG zaw;rw[List.length_map,h2] at h1;rw[List.length_append,List.length_append];have h5:(eN e a).pred.data.toList.length=a.pred.size:=jH _;have h6:(if ((eN e a).ae.map ed).length=0 then ([]:List UInt8) else [41]).length<=1:=by split <;> simp
 have h7:a.ae.length*1001<=4*1001:=Nat.mul_le_mul_right _ h3;omega
variable {out:List zP}
theorem z99 {f:zP}(h:∀ x∈out,zc6 x)(hf:zc6 f):∀ x∈zue l out f,zc6 x:=by
 intro x hx;unfold zue at hx
 split at hx
 ·rcases List.mem_append.1 hx with hx | hx
  ·exact h x hx
  ·rw[List.mem_singleton.1 hx];exact hf
 ·exact h x hx
theorem zwp {l:List zP}:∀ (cs out:List zP),(∀ f∈cs,zc6 f)->(∀ x∈out,zc6 x)->∀ x∈(vB l cs out).1,zc6 x
 | [],out,_,h=>h
 | f::r,out,hc,h=>by
  rw[vB]
  split
  ·exact h
  ·exact zwp r _ (λ g hg=>hc g (List.mem_cons_of_mem _ hg)) (z99 h (hc f List.mem_cons_self))
theorem zws {ps:P9}{S:Nat->Nat}{l:List zP}{s n:Nat}(hl:∀ f∈l,zc6 f):∀ (rs:List zS) (i:Nat),(∀ R∈rs,∀ a∈R.head::R.body,zn4 a)->∀ f∈j1 ps S l s n rs i,zc6 f
 | [],_,_,f,hf=>by simp[j1] at hf
 | R::r,i,hr,f,hf=>by
  rw[j1,List.mem_append] at hf;rcases hf with hf | hf
  ·split at hf
   ·obtain⟨x,hx,rfl⟩:=List.mem_map.1 hf;exact z89 (zxm hl R.body x (List.mem_filter.1 hx).1) (hr R List.mem_cons_self _ List.mem_cons_self)
   ·simp at hf
  ·exact zws hl r (i+1) (λ Q hQ=>hr Q (List.mem_cons_of_mem _ hQ)) f hf
def zy (ps:P9)(S:Nat->Nat)(rs:List zS)(l:List zP)(s n:Nat)(out:List zP):Prop:=
 ((vB l (j1 ps S l s n rs 0) []).2=true/\out=(vB l (j1 ps S l s n rs 0) []).1)\/((vB l (j1 ps S l s n rs 0) []).2=false/\out.Pairwise (λ x y=>jD y x=false)/\out.Perm (vB l (j1 ps S l s n rs 0) []).1)
inductive zbx (ps:P9)(S:Nat->Nat)(rs:List zS)(limit s:Nat):Nat->List zP->Option (List zP)->Prop
 | fF {n:Nat} {l out:List zP}:zy ps S rs l s n out->limit<l.length+out.length->zbx ps S rs limit s n l none
 | done {n:Nat} {l:List zP}:zy ps S rs l s n []->l.length<=limit->zbx ps S rs limit s n l (some l)
 | more {n:Nat} {l out:List zP} {r:Option (List zP)}:zy ps S rs l s n out->out≠[]->l.length+out.length<=limit->zbx ps S rs limit s (n+1) (l++out) r->zbx ps S rs limit s n l r
inductive zkk (ps:P9)(S:Nat->Nat)(rs:List zS)(limit dh:Nat):Nat->List zP->Option (List zP)->Prop
 | ends {s:Nat} {l:List zP}:dh<s->zkk ps S rs limit dh s l (some l)
 | ia {s:Nat} {l:List zP}:s<=dh->zbx ps S rs limit s 1 l none->zkk ps S rs limit dh s l none
 | next {s:Nat} {l l':List zP} {r:Option (List zP)}:s<=dh->zbx ps S rs limit s 1 l (some l')->zkk ps S rs limit dh (s+1) l' r->zkk ps S rs limit dh s l r
variable {v:Value} {s n:Nat} {rs:List zS} {S:Nat->Nat} {ps:P9}
theorem LN.rel {w:W8}{out:List FG}{w':W8}(h:LN w l (vB l (j1 ps S l s n rs 0) []) v out w'):zy ps S rs l s n (out.map (·.F)):=by
 cases hT:(vB l (j1 ps S l s n rs 0) []).2 with
 | true=>exact .inl ⟨hT,h.stop hT⟩
 | false=>
  obtain⟨h1,h2⟩:=h.perm hT;exact .inr ⟨hT,List.pairwise_map.2 h1,h2⟩
theorem zy.ok (h:zy ps S rs l s n out)(hl:∀ f∈l,zc6 f)(hr:∀ R∈rs,∀ a∈R.head::R.body,zn4 a):∀ f∈out,zc6 f:=by
 have hk:=zwp (l:=l) (j1 ps S l s n rs 0) [] (zws hl rs 0 hr) (by simp);rcases h with⟨_,rfl⟩ | ⟨_,_,hp⟩
 ·exact hk
 ·exact λ f hf=>hk f (hp.mem_iff.1 hf)
theorem xB.app {wX W w5:W8}{base:Nat}{v':Value}{fs out:List FG}(h:xB wX base v fs)(ho:∀ x∈out,qZ wX base x)(hW:zK [] wX W)(hg:W.grownBy w5 v.ownBlock)(ay:w5.ownsRow base 262 10 v' (fs.length+out.length) (fs.flatMap FG.cells++out.flatMap FG.cells)):xB w5 base v' (fs++out):=by
 have k5:zK v.ownBlock.toList wX w5:=(hW.mono (by simp)).trans (zK.aR hg);have n1:∀ b∈v.ownBlock.toList,dW wX 317 b:=yH h.row (by decide);have n2:∀ b∈v.ownBlock.toList,dW wX 3 b:=yH h.row (by decide);refine⟨?_,λ y hy=>?_⟩
 ·rw[List.length_append,List.flatMap_append];exact ay
 ·rcases List.mem_append.1 hy with hy | hy
  ·exact (h.each y hy).bu k5 n1 n2
  ·exact (ho y hy).bu k5 n1 n2
end
section
open Go.RowKit Go.Maps Go.ChangeMaps Go.WideMaps
abbrev Th:=B8 × List B8
abbrev Th.p (t:Th):B8:=t.1
abbrev Th.ts (t:Th):List B8:=t.2
def xW (l:List B8)(i:Nat):B8:=(l[i]?).getD ⟨#[]⟩
def zV (t:Th):V8:=[.string t.p,.string (xW t.ts 0),.string (xW t.ts 1),.string (xW t.ts 2),.string (xW t.ts 3)]
def thV (t:Th):Value:=.agg (zV t).toArray
structure zdu (t:Th):Prop where
 pd:t.p.size<=1000000000
 eJ:t.ts.length<=4
 sz:∀ x∈t.ts,x.size<=1000000000
 ne:∀ x∈t.ts,0<x.size
variable {t:Th}
theorem yan (h:zdu t)(i:Nat):(xW t.ts i).size<=1000000000:=by
 unfold xW;rcases Nat.lt_or_ge i t.ts.length with hi | hi
 ·rw[List.getElem?_eq_getElem hi];exact h.sz _ (List.getElem_mem hi)
 ·rw[List.getElem?_eq_none hi];simp[ByteArray.size]
variable {i:Nat}
theorem zp1 (h:zdu t)(hi:i<t.ts.length):0<(xW t.ts i).size:=by
 unfold xW;rw[List.getElem?_eq_getElem hi];exact h.ne _ (List.getElem_mem hi)
theorem zmo {l:List B8}(hi:l.length<=i):(xW l i).size=0:=by
 unfold xW;rw[List.getElem?_eq_none hi];rfl
variable {a:Th}
theorem z5c {b:Th}(ha:zdu a)(hb:zdu b)(h:thV a=thV b):a=b:=by
 obtain⟨p,ts⟩:=a;obtain⟨q,us⟩:=b;simp only[thV,zV,.agg.injEq,Array.mk.injEq,List.cons.injEq,.string.injEq,and_true] at h;obtain⟨hp,h0,h1,h2,h3⟩:=h;subst hp;have hn:∀ i,i<4->xW ts i=xW us i:=λ i hi=>by
  match i,hi with
  | 0,_=>exact h0
  | 1,_=>exact h1
  | 2,_=>exact h2
  | 3,_=>exact h3
 have hf:ts.length<=4:=ha.eJ;have hg:us.length<=4:=hb.eJ;have hl:ts.length=us.length:=by
  rcases Nat.lt_trichotomy ts.length us.length with h | h | h
  ·have e:=hn ts.length (by omega);have p1:0<(xW us ts.length).size:=zp1 hb h;have p2:=zmo (l:=ts) L9;rw[e] at p2;omega
  ·exact h
  ·have e:=hn us.length (by omega);have p1:0<(xW ts us.length).size:=zp1 ha h;have p2:=zmo (l:=us) L9;rw[<-e] at p2;omega
 congr 1
 refine List.ext_getElem hl λ i h1 h2=>?_
 have:=hn i (by omega);unfold xW at this;rw[List.getElem?_eq_getElem h1,List.getElem?_eq_getElem h2] at this;exact this
theorem zsn:ArrKey Tryz.prog 88 9 5:=⟨Tryz.underlying88,by kernel_rfl,by kernel_rfl,by kernel_rfl⟩
theorem yeb:KeyLaw Tryz.prog 88:=zsn.law
theorem zdq:Keyed Tryz.prog 88:=Keyed.of_law yeb
theorem zxj:∃ m,Tryz.prog.types.size=m+1:=⟨Tryz.prog.types.size-1,by have:0<Tryz.prog.types.size:=of_decide_eq_true (by kernel_rfl);omega⟩
theorem z6d (h:zdu t):∃ l,keyOf Tryz.prog 88 (thV t)=some l:=by
 have Xn:=zsn.keyType zxj;obtain⟨m,hm⟩:=zxj;have s0:t.p.size<=maxLen:=by have:=h.pd;unfold maxLen;omega
 have s1:∀ i,(xW t.ts i).size<=maxLen:=λ i=>by have:=yan h i;unfold maxLen;omega
 unfold keyOf;simp only[zsn.hu];rw[if_pos (by simp[Xn,.formed,zsn.hu,zsn.size,thV,zV]),hm];unfold Program.keyLits;simp only[zsn.hu,thV,.cells];rw[if_pos (by rw[zsn.size];rfl),show List.range 5=[0,1,2,3,4] from rfl,List.mapM_cons,List.mapM_cons,List.mapM_cons,List.mapM_cons,List.mapM_cons,List.mapM_nil];simp[zsn.one,Program.keyLits,zV,Tryz.underlying9,s0,s1]
def yS (L:List (Th × Nat))(t:Th):Option Nat:=(L.find? λ p=>decide (p.1=t)).map (·.2)
def zjo (L:List (Th × Nat))(t:Th)(h:Nat):List (Th × Nat):=if (yS L t).isSome then L.map (λ p=>if p.1=t then (t,h) else p) else L++[(t,h)]
variable {n:Nat} {L:List (Th × Nat)}
theorem jU (h:yS L t=some n):(t,n)∈L:=by
 unfold yS at h;obtain⟨p,hp,rfl⟩:=Option.map_eq_some_iff.1 h;have h1:=List.mem_of_find?_eq_some hp;have h2:=List.find?_some hp;rw[<-of_decide_eq_true h2];exact h1
theorem qS (h:yS L t=none):∀ n,(t,n)∉L:=by
 intro n hn;unfold yS at h;rw[Option.map_eq_none_iff,List.find?_eq_none] at h;exact h _ hn (decide_eq_true rfl)
theorem zbd (hd:(L.map (·.1)).Nodup)(h:(t,n)∈L):yS L t=some n:=by
 cases hl:yS L t with
 | none=>exact absurd h (qS hl n)
 | some m=>
  have h1:=jU hl;have:∀ (L:List (Th × Nat)),(L.map (·.1)).Nodup->(t,n)∈L->(t,m)∈L->m=n:=by
   intro L
   induction L with
   | nil=>intro _ h;cases h
   | cons x r ih=>
    intro hd h1 h2;rw[List.map_cons,List.nodup_cons] at hd;rcases List.mem_cons.1 h1 with e1 | e1 <;> rcases List.mem_cons.1 h2 with e2 | e2
    ·have:=e1.trans e2.symm;injection this with _ this;exact this.symm
    ·exact absurd (List.mem_map_of_mem (f:=Prod.fst) e2) (by rw[<-e1] at hd;exact hd.1)
    ·exact absurd (List.mem_map_of_mem (f:=Prod.fst) e1) (by rw[<-e2] at hd;exact hd.1)
    ·exact ih hd.2 e1 e2
  rw[this L hd h h1]
def qU (w:W8)(b:Nat)(L:List (Th × Nat)):Prop:=
 ∃ D:DataW Value,w.ownsMap Tryz.prog 88 jP b L.length D/\Maps.size D=L.length/\(L.map (·.1)).Nodup/\(∀ p∈L,zdu p.1) /\
  (∀ p∈L,∀ l,keyOf Tryz.prog 88 (thV p.1)=some l->Maps.has D l=true/\∀ z,D.atKey l z=.held (.int .i64 p.2)) /\
  (∀ l,Maps.has D l=true->∃ p∈L,keyOf Tryz.prog 88 (thV p.1)=some l)
theorem qU.made (w:W8):qU (w.alloc (.map #[] 0)) w.heap.size []:=
 ⟨.map [],World.ownsMap_made w _ _ jP,rfl,by simp,by simp,by simp,λ l h=>by cases h⟩
variable {b:Nat} {w:W8}
theorem qU.lt (h:qU w b L):b<w.heap.size:=by obtain⟨D,hD,_⟩:=h;exact hD.lt
theorem qU.ok (h:qU w b L):∀ p∈L,zdu p.1:=by obtain⟨D,_,_,_,h,_⟩:=h;exact h
theorem qU.nodup (h:qU w b L):(L.map (·.1)).Nodup:=by obtain⟨D,_,_,h,_⟩:=h;exact h
theorem qU.kept {w w':W8}{b:Nat}{L:List (Th × Nat)}{row:Option Nat}(h:qU w b L)(hg:w.grownBy w' row)(hr:some b≠row):qU w' b L:=by
 obtain⟨D,hD,h⟩:=h;exact⟨D,hD.kept hg hr,h⟩
variable {w':W8}
theorem qU.block (h:qU w b L)(hb:w'.heap[b]?=w.heap[b]?):qU w' b L:=by
 obtain⟨D,⟨es,clock,h1,h2⟩,h3⟩:=h;exact⟨D,⟨es,clock,hb.trans h1,h2⟩,h3⟩
theorem qU.alloc (h:qU w b L)(o:Obj):qU (w.alloc o) b L:=h.kept (World.grownBy_alloc w o none) (by simp)
theorem qU.isMap (h:qU w b L):∃ es clock,w.heap[b]?=some (.map es clock):=by
 obtain⟨D,⟨es,clock,h1,_⟩,_⟩:=h;exact⟨es,clock,h1⟩
theorem zfp {b:Th}{l:Lit}(ha:zdu a)(hb:zdu b)(h1:keyOf Tryz.prog 88 (thV a)=some l)(h2:keyOf Tryz.prog 88 (thV b)=some l):a=b:=z5c ha hb (zdq.inj h1 h2)
theorem qU.look (h:qU w b L)(ht:zdu t){T:TypeId}(hT:Tryz.prog.underlying T=some (.map 88 3)):
  (Instr.lookup T (.map (some b)) (thV t) true).run Tryz.prog w=.ok (.tuple #[.int .i64 (((yS L t).getD 0:Nat):Int),.bool (yS L t).isSome]) w:=by
 obtain⟨D,hD,hs,hn,bQ,aS,hZ⟩:=h;obtain⟨l,hl⟩:=z6d ht;obtain⟨v,ps,kG,hv⟩:=hD.look_ok zdq hT (z:=.int .i64 0) (by kernel_rfl) (zd:=.held (.int .i64 0)) (zp:=[]) rfl hl;have h1:=zga hv
 cases hk:yS L t with
 | some n=>
  obtain⟨h2,h3⟩:=aS _ (jU hk) l hl;rw[h3] at h1;have h1:=DataW.held.inj h1;subst h1;rw[h2] at kG;exact kG
 | none=>
  have h2:Maps.has D l=false:=by
   cases hh:Maps.has D l with
   | false=>rfl
   | true=>
    obtain⟨p,hp,bt⟩:=hZ l hh;have e:=zfp (bQ p hp) ht bt hl;exact absurd (show (t,p.2)∈L by rw[<-e];exact hp) (qS hk _)
  rw[Maps.atKey_of_not_has h2] at h1;have h1:=DataW.held.inj h1;subst h1;rw[h2] at kG;exact kG
theorem zkz (L:List (Th × Nat))(t:Th)(n:Nat):(zjo L t n).length=if (yS L t).isSome then L.length else L.length+1:=by
 unfold zjo
 split <;> simp
variable {p:Th × Nat}
theorem zko (h:p∈zjo L t n):p=(t,n)\/(p∈L/\p.1≠t):=by
 unfold zjo at h
 split at h
 ·obtain⟨q,hq,rfl⟩:=List.mem_map.1 h
  split
  ·exact .inl rfl
  ·rename_i bF;exact .inr ⟨hq,bF⟩
 ·rename_i bF;rcases List.mem_append.1 h with h | h
  ·refine .inr ⟨h,λ e=>?_⟩;have aW:yS L t=none:=(by simpa using bF);exact qS aW p.2 (by rw[<-e];exact h)
  ·exact .inl (List.mem_singleton.1 h)
theorem Rv (L:List (Th × Nat))(t:Th)(n:Nat):(t,n)∈zjo L t n:=by
 unfold zjo
 split
 ·rename_i h;obtain⟨m,hm⟩:=Option.isSome_iff_exists.1 h;exact List.mem_map.2 ⟨_,jU hm,by simp⟩
 ·simp
theorem zgy (h:p∈L)(bF:p.1≠t):p∈zjo L t n:=by
 unfold zjo
 split
 ·exact List.mem_map.2 ⟨p,h,by simp[bF]⟩
 ·exact List.mem_append_left _ h
theorem z5e:(zjo L t n).map (·.1)=if (yS L t).isSome then L.map (·.1) else L.map (·.1)++[t]:=by
 unfold zjo
 split
 ·rw[List.map_map];refine List.map_congr_left λ p _=>?_
  simp only[Function.comp]
  split
  ·rename_i e;exact e.symm
  ·rfl
 ·simp
theorem KP (h:(L.map (·.1)).Nodup):((zjo L t n).map (·.1)).Nodup:=by
 rw[z5e]
 split
 ·exact h
 ·rename_i bF;refine List.nodup_append.2 ⟨h,by simp,λ a ha b hb=>?_⟩;rw[List.mem_singleton.1 hb];rintro rfl;obtain⟨p,hp,e⟩:=List.mem_map.1 ha;have aW:yS L a=none:=by simpa using bF
  exact qS aW p.2 (by rw[<-e];exact hp)
theorem zpe {P:Program}{K:TypeId}{D:DataW Value}(h:w.ownsMap P K jP b n D):w.ownsMap P K jP b (Maps.size D) D:=by
 obtain⟨es,clock,hb,F,hs,rfl⟩:=h;exact⟨es,clock,hb,F,by simp[Maps.size,length_sorted],rfl⟩
theorem qU.put {w:W8}{b:Nat}{L:List (Th × Nat)}(h:qU w b L){t:Th}(ht:zdu t)(n:Nat)(hL:L.length<maxLen){T:TypeId}(hT:Tryz.prog.underlying T=some (.map 88 3)):
  ∃ w',(Instr.mapUpdate T (.map (some b)) (thV t) (.int .i64 n)).run Tryz.prog w=.ok () w'/\qU w' b (zjo L t n)/\w.mapTurned w' b:=by
 obtain⟨D,hD,hs,hn,bQ,aS,hZ⟩:=h;obtain⟨l,hl⟩:=z6d ht;obtain⟨w',kG,ay,Lx⟩:=hD.store zdq hT hL hl (val:=.int .i64 n) (d:=.held (.int .i64 n)) (ps:=[]) rfl;have dF:=zdq.key hl;have G3:Maps.has D l=(yS L t).isSome:=by
  cases hk:yS L t with
  | some m=>exact (aS _ (jU hk) l hl).1
  | none=>
   cases hh:Maps.has D l with
   | false=>rfl
   | true=>
    obtain⟨p,hp,bt⟩:=hZ l hh;have e:=zfp (bQ p hp) ht bt hl;exact absurd (show (t,p.2)∈L by rw[<-e];exact hp) (qS hk _)
 have bj:Maps.size (D.put l (.held (.int .i64 n)))=(zjo L t n).length:=by
  rw[Maps.size_put (hD.tidy zdq),G3,zkz,hs]
 refine⟨w',kG,⟨_,?_,bj,KP hn,λ p hp=>?_,λ p hp l' nV=>?_,λ l' nV=>?_⟩,Lx⟩
 ·rw[<-bj];exact zpe ay
 ·rcases zko hp with rfl | ⟨hp,_⟩
  ·exact ht
  ·exact bQ p hp
 ·rcases zko hp with rfl | ⟨hp,bF⟩
  ·have e:l'=l:=Option.some.inj (nV.symm.trans hl);subst e;exact⟨Maps.has_put_same hD.isMap dF _,λ z=>Maps.atKey_put_same hD.isMap dF _ _⟩
  ·have Fe:l'≠l:=λ e=>bF (zfp (bQ p hp) ht (e ▸ nV) hl)
   obtain⟨h1,h2⟩:=aS p hp l' nV;exact⟨(Maps.has_put_other Fe _).trans h1,λ z=>(Maps.atKey_put_other Fe _ _).trans (h2 z)⟩
 ·by_cases e:l'=l
  ·subst e;exact⟨_,Rv L t n,hl⟩
  ·rw[Maps.has_put_other e] at nV;obtain⟨p,hp,bt⟩:=hZ l' nV;exact⟨p,zgy hp (λ e'=>e (Option.some.inj ((e' ▸ bt).symm.trans hl))),bt⟩
theorem qU.len {w:W8}{b:Nat}{L:List (Th × Nat)}(h:qU w b L){T:TypeId}(hT:Tryz.prog.underlying T=some (.map 88 3))(ty:TypeId):(Builtin.len_ #[T] ty #[.map (some b)]).run Tryz.prog w=.ok (.int .i64 (L.length:Nat)) w:=by
 obtain⟨D,hD,hs,_⟩:=h;rw[hD.len hT ty,hs]
def rW (w:W8)(b r:Nat)(L:List (Th × Nat))(Lf:Th->Prop)(eD:Nat):Prop:=
 ∃ (D:DataW Value) (left:Lit->Bool),w.ranges Tryz.prog 88 jP b r L.length D left eD/\Maps.size D=L.length/\(L.map (·.1)).Nodup/\(∀ p∈L,zdu p.1) /\
  (∀ p∈L,∀ l,keyOf Tryz.prog 88 (thV p.1)=some l->Maps.has D l=true/\∀ z,D.atKey l z=.held (.int .i64 p.2)) /\
  (∀ l,Maps.has D l=true->∃ p∈L,keyOf Tryz.prog 88 (thV p.1)=some l) /\
  (∀ p∈L,∀ l,keyOf Tryz.prog 88 (thV p.1)=some l->(left l=true↔Lf p.1))
variable {eD r:Nat} {Lf:Th->Prop}
theorem rW.map (h:rW w b r L Lf eD):qU w b L:=by
 obtain⟨D,left,h1,h2,h3,h4,h5,h6,_⟩:=h;exact⟨D,h1.owns,h2,h3,h4,h5,h6⟩
theorem rW.lt {w:W8}{b r:Nat}{L:List (Th × Nat)}{Lf:Th->Prop}{eD:Nat}(h:rW w b r L Lf eD):r<w.heap.size:=by
 obtain⟨D,left,h1,_⟩:=h;exact h1.lt
theorem rW.blocks (h:rW w b r L Lf eD)(hb:w'.heap[b]?=w.heap[b]?)(hr:w'.heap[r]?=w.heap[r]?):rW w' b r L Lf eD:=by
 obtain⟨D,left,⟨es,clock,since,seen,c0,h1,F,hs,hD,h2,rest⟩,h3⟩:=h;exact⟨D,left,⟨es,clock,since,seen,c0,hb.trans h1,F,hs,hD,hr.trans h2,rest⟩,h3⟩
theorem rW.iter (h:rW w b r L Lf eD):∃ o:Obj,w.heap[r]?=some o/\o.isWalk=true:=by
 obtain⟨D,left,⟨es,clock,since,seen,c0,_,_,_,_,h2,_⟩,_⟩:=h;exact⟨_,h2,rfl⟩
section
variable (w:W8) {ops:Array Oper} {rest:List Oper} {o:Oper} {a:Act} {Q:Exit->Act->W8->Prop}
theorem zm4 (hg:o.guard=none)(m:Operand)(t:TypeId)(pI:o.op=Op.range t m)(ht:Tryz.prog.underlying t=some (.map 88 3))(b:Nat)(L:List (Th × Nat))
  (hm:a.eval m=.map (some b)) (ay:qU w b L)
  (hQ:∀ w',rW w' b w.heap.size L (λ _=>True) L.length->w.grownBy w' none->w'.heap.size=w.heap.size+1->wpList Tryz.prog ops Q rest (a.put o.dst (.pointer (some ⟨w.heap.size,0,none⟩))) w'):
  wpList Tryz.prog ops Q (o::rest) a w:=by
 obtain⟨D,hD,hs,hn,bQ,aS,hZ⟩:=ay;refine wpList_range_own w hg m t pI 88 3 zdq ht jP b L.length D hm hD λ w' h1 h2 lZ=>hQ w' ⟨D,_,by rw[<-hs] at h1 ⊢;exact h1,hs,hn,bQ,aS,hZ,λ p hp l hl=>?_⟩ h2 lZ
 exact⟨λ _=>trivial,λ _=>(aS p hp l hl).1⟩
theorem zpu (hg:o.guard=none)(it:Operand)(pI:o.op=Op.next it false)(b r:Nat)(L:List (Th × Nat))(Lf:Th->Prop)(eD:Nat)
  (QS:a.eval it=.pointer (some ⟨r,0,none⟩)) (h:rW w b r L Lf eD)
  (Bu:(∀ p∈L,¬ Lf p.1)->wpList Tryz.prog ops Q rest (a.put o.dst (.tuple #[.bool false])) w)
  (Ac:∀ (t:Th) (n:Nat) (w':W8) (oR:Nat),(t,n)∈L->Lf t->rW w' b r L (λ x=>Lf x/\x≠t) oR->oR<eD->w.grownBy w' (some r)->w'.heap.size=w.heap.size ->
   (Instr.entry (.pointer (some ⟨r,0,none⟩))).run Tryz.prog w'=.ok (.tuple #[thV t,.int .i64 n]) w'->wpList Tryz.prog ops Q rest (a.put o.dst (.tuple #[.bool true,thV t,.int .i64 n])) w'):
  wpList Tryz.prog ops Q (o::rest) a w:=by
 obtain⟨D,left,h1,hs,hn,bQ,aS,hZ,qh⟩:=h;refine wpList_next_ranges w hg it pI 88 zdq jP (id:Value->Value) (id:Value->Value) (λ key kl _=>⟨key,rfl⟩) (λ v y _=>⟨v,rfl⟩) b r L.length D left eD QS h1
  (λ _ hl=>Bu λ p hp hf=>?_) ?_
 ·obtain⟨l,hk⟩:=z6d (bQ p hp);have:=(qh p hp l hk).2 hf;rw[hl] at this;cases this
 intro x c kl y w' oR hkey aF hv dv ph aH mG bj wS;have G3:Maps.has D kl=true:=Maps.has_true_of_atKey dv;obtain⟨p,hp,bt⟩:=hZ kl G3;have hx:x=thV p.1:=zdq.inj hkey bt;have hy:=zga (v:=c) (d:=y.1) (ps:=y.2) hv;have hc:c=.int .i64 p.2:=by
  have e1:=dv (.held undef);rw[(aS p hp kl bt).2,hy] at e1;exact (DataW.held.inj e1).symm
 subst hx hc;refine Ac p.1 p.2 w' oR hp ((qh p hp kl bt).1 aF) ⟨D,_,ph,hs,hn,bQ,aS,hZ,λ q hq l hl=>?_⟩ aH mG bj wS;rw[Bool.and_eq_true,qh q hq l hl,Bool.not_eq_true'];refine and_congr_right λ _=>⟨λ hs e=>?_,λ bF=>Maps.sameKey_ne λ e=>bF (zfp (bQ q hq) (bQ p hp) (e ▸ hl) bt)⟩
 rw[e] at hl;have hl:=Option.some.inj (bt.symm.trans hl);rw[<-hl,WideAt.sameKey_self (zdq.key bt)] at hs
 cases hs
theorem z3m (hg:o.guard=none)(m x v:Operand)(t:TypeId)(pI:o.op=Op.mapUpdate t m x v)(ht:Tryz.prog.underlying t=some (.map 88 3))(b:Nat)(L:List (Th × Nat))
  (hm:a.eval m=.map (some b)) (ay:qU w b L) (hn:L.length<maxLen) (th:Th) (n:Nat) (hx:a.eval x=thV th) (hv:a.eval v=.int .i64 n) (oN:zdu th)
  (hQ:∀ w',qU w' b (zjo L th n)->w.mapTurned w' b->wpList Tryz.prog ops Q rest (a.put o.dst undef) w'):
  wpList Tryz.prog ops Q (o::rest) a w:=by
 refine wpList_plain hg λ K' IP=>?_
 obtain⟨w',kG,h1,h2⟩:=ay.put oN n hn ht;unfold Oper.wp;simp[execOp,pI,hm,hx,hv,kG,Result.andThen];exact IP _ _ (hQ w' h1 h2)
end
end
end Go.Proofs.YtldkpahaocjdpaaGreat
