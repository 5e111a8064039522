/-
  The reference's ways, whole.
-/
import Derived.Test.YtldkpahaocjdpaaGreatA0K
import Derived.Test.YtldkpahaocjdpaaGreatA19
import Derived.Test.YtldkpahaocjdpaaGreatA15
import Derived.Deep.Upon
set_option maxHeartbeats 16000000
set_option maxRecDepth 1000000
namespace Go.Proofs.YtldkpahaocjdpaaGreat
open Go.Value renaming slice->U,int->I,string->Y,bool->Vb,pointer->Vp,agg->Va,tuple->Vt
open Go.IntKind renaming i64->J
open Go.Ending renaming returned->Vr
open Go.Obj renaming cells->Vc
open _root_.Option renaming none->G,some->P
open _root_.Bool renaming true->Bt,false->Bf
open Go.Addr renaming mk->C
open _root_.List renaming length->Z
open Go.World renaming heap->X,alloc->Al,setCell->Sc,cell?->Ce,ownsRow->Ow
open _root_.Array renaming size->F
open Go.Proofs.Tryz
set_option linter.defProp false
section
open Go.RowKit
def acW(w:W8)(R:bg)(l:List aP):Ending->W8->Prop:=λe w'=>∃v outs,e=Vr v/\oq w' (F (X w)+1) v outs/\outs.map (·.W)=lX R l/\(∀x∈outs,Z x.e<=100/\(Z x.fr)<=100)/\(Z outs)<=1000000/\Below (F (X w)) w w'
def ajH{w g e xs a}(c:w.heap[g]?=P (Vc xs.toArray e))(b:Z xs=a):Ow w g e a (U (P (C g 0 G)) 1 1) 1 xs:=
 ⟨O,.inr ⟨g,1,xs.toArray,rfl,bD _,c,bD _,by unfold maxLen;omega,by simpa using b,by simp[<-b]⟩⟩
def jJ.start(w R b a):jJ w R b a (U (P (C (F (X w)+1) 0 G)) 1 1) [⟨[],[],U G 0 0,U G 0 0,U G 0 0⟩] (U G 0 0) [] (Al (Al w (Vc #[Y R.ay.ax,b,Vb R.ay.no,I J R.ay.aC,I J R.ay.aO,a] 246)) (Vc #[U G 0 0,U G 0 0,U G 0 0] 325)):=by
 refine⟨((aZ _ w).alloc L9 _).alloc oS _,?_,⟨ajH (xs:=[U G 0 0,U G 0 0,U G 0 0]) ?_ rfl,λx c=>?_⟩,⟨dm _ _ _ _,oS⟩,λg e=>by cases e⟩
 .rw[aW _ _ _ oS];exact aG w _
 .have:=aG (Al w (Vc #[Y R.ay.ax,b,Vb R.ay.no,I J R.ay.aC,I J R.ay.aO,a] 246)) (Vc #[U G 0 0,U G 0 0,U G 0 0] 325);rw[bL]at this;exact this
 rw[bu.1 c];exact⟨⟨dm _ _ _ _,dm _ _ _ _,λ_=>⟨rfl,rfl⟩⟩,dm _ _ _ _,λ_=>rfl⟩
def abq(w b R p l m d i j)(g:vs w b R p l m d (U i (Z d) j))(c:∀x∈j6 (d.map (·.F)) R.body [([],[])],∀a∈R.body,(fR (bk x.1 a)).length<=1000000000):Calls prog 193 #[oJ R.ay p m,U i (Z d) j] w (acW w R (d.map (·.F))):=by
 have s:=H g;have r:=H (jJ.start w R p m);have e:=H c;obtain⟨D,L,rfl⟩:=aF g.cH.bo;obtain⟨E,M,rfl⟩:=aF g.cH.hd;clear g c;unfold oJ;go_in;go_wp2_with fail;refine ao5 w b R _ l _ d i j s _ _ r ?_;intro N g Q;intros;rename_i n k f o;obtain⟨y,z,rfl⟩:=aF n.now.row;have c:∀x∈g,∀a∈R.body,(fR (bk x.e a)).length<=1000000000:=λx q a u=>e x.W (by rw[<-k];exact fW q) a u
 have u:=H n;have t:=H k;have h:=H f;have v:=H c;clear n k f c r e;go_wp2_with fail;refine ao8 w b R _ l _ d i j s g y z o v _ u ?_;intro A a S;intros;rename_i f e c;obtain⟨B,K,rfl⟩:=aF f.next.row;have n:Z a<=1000000:=by have:=gQ Z e;rw[bF]at this;have r:=qU (sh R (d.map (·.F))) (g.map (·.W));rw[bF]at r;omega
 have r:=H (show a.map (·.W)=lX R (d.map (·.F)) by rw[e,ag t];rfl);have k:=H (show ∀x∈a,Z x.e<=100/\(Z x.fr)<=100 from λx q=>h x (c x q));have x:=H f;clear f e c u t h v;go_wp2;go_ret;exact⟨_,a,rfl,x.next,r,k,n,x.ai⟩
def qA(R:bg)(s n i:Nat)(x:kR):aP:=⟨bk x.1 R.ay,bI (bk x.1 R.ay),s,n,i,x.2⟩
def pc(l out:List aP)(f:aP):List aP:=if dp l f.text<0/\dp out f.text<0 then out++[f] else out
def eL(l:List aP):List aP->List aP->List aP×Bool
 | [],out=>(out,Bf)
 |f::r,out=>if 50<Z l+(Z out) then(out,Bt) else eL l r (pc l out f)
def im(ps:P9)(S:Nat->Nat)(l:List aP)(s n:Nat):List bg->Nat->List aP
 | [],_=>[]
 |R::r,i=>(if S (aL ps R.ay.ax).toNat=s then(lX R l).map (qA R s n i) else [])++im ps S l s n r (i+1)
def AQ{s B}(h:s.data.toList=fR B):s=bI B:=by
 cases s
 simp only[bI,<-h,Array.toArray_toList]
variable {p:List aP}
def aaO :∀(a b c:List aP),(eL p a c).2=Bt->eL p (a++b) c=eL p a c
 | [],b,c,h=>by simp[eL]at h
 |f::r,b,c,h=>by
  rw[jA,eL,eL];rw[eL]at h
  split
  .rfl
  rename_i c;rw[aB c]at h;exact aaO r b _ h
def aaK :∀(a b c:List aP),(eL p a c).2=Bf->eL p (a++b) c=eL p b (eL p a c).1
 | [],b,c,h=>rfl
 |f::r,b,c,h=>by
  rw[jA,eL,eL];rw[eL]at h
  split
  .rename_i c;rw[aD c]at h
   cases h
  rename_i c;rw[aB c]at h;exact aaK r b _ h
variable {b:Nat}{a g:W8}
def lk.iT{B x}(h:lk a b x)(k:ak B a g)(e:∀w∈B,er a 317 w)(f:∀w∈B,er a 3 w):lk g b x:=
 ⟨j3 h.t k (λw c=>.inr (e w c)),j3 h.i k (λw c=>.inr (f w c))⟩
variable {h:List FG}{c d e f k l m n o:V9}
def gV.add{W w5 v' x}(e:gV a b c h)(l:lk a b x)(j:ak [] a W)(k:W.grownBy w5 c.ownBlock)(d:Ow w5 b 262 10 v' (Z h+1) (h.flatMap FG.cells++x.cells)):gV w5 b v' (h++[x]):=by
 have f:ak c.ownBlock.toList a w5:=(j.mono oS).trans (ak.jF k);have g:∀v∈c.ownBlock.toList,er a 317 v:=gl e.row oD;have i:∀v∈c.ownBlock.toList,er a 3 v:=gl e.row oD;refine⟨?_,λy v=>?_⟩
 .rw[br,oc];simpa using d
 rcases aS.1 v with v|v
 .exact(e.aK y v).iT f g i
 rw[bu.1 v];exact l.iT f g i
structure qZ(w:W8)(TT:Nat)(R:bg)(hv bv vw:V9)(ws:List WG)(v:V9)(out:List FG)(wr:W8):Prop where
 ai:Below (F (X w)) w wr
 ge:F (X w)<=TT
 box:wr.heap[TT]?=P (Vc #[Y R.ay.ax,hv,Vb R.ay.no,I J R.ay.aC,I J R.ay.aO,bv] 246)
 ways:oq wr (F (X w)) vw ws
 out:gV wr (F (X w)) v out
variable {i:List WG}{j:bg}
def qZ.lt(w:qZ a b j d c e i f h g):b<F (X g):=(aM.1 w.box).1
def qZ.zm{w}(R:qZ a b j d c e i f h g)(k:Below (F (X g)) g w):qZ a b j d c e i f h w:=
 ⟨R.ai.trans (k.mono R.ai.size),R.ge,(k.block _ R.lt).trans R.box,R.ways.ai k,R.out.ai k⟩
def qZ.add{w c R m j n o v v' a f W w5 x}(h:qZ w c R m j n o v a f)(p:lk f (F (X w)) x)(k:ak [] f W)(l:W.grownBy w5 v.ownBlock)(d:Ow w5 (F (X w)) 262 10 v' (Z a+1) (a.flatMap FG.cells++x.cells)):qZ w c R m j n o v' (a++[x]) w5:=by
 have g:ak v.ownBlock.toList f w5:=(k.mono oS).trans (ak.jF l);have i:∀e,262≠e->∀b∈v.ownBlock.toList,er f e b:=λe y=>gl h.out.row y
 refine⟨ib h.ai g h.ai.size (λb y=>(h.out.row.lt b (oU y)).1),h.ge,lC h.box g (λb y=>.inr (i _ oD b y)),⟨j3 h.ways.row g (λb y=>.inr (i _ oD b y)),λy b=>(h.ways.aK y b).iT g (i _ oD) (i _ oD)⟩,h.out.add p k l d⟩
structure sr(wr:W8)(v0 v1 v2 v3 v4 v5 v6 v7 v8 v9:V9)(b:Nat)(wc:W8):Prop where
 ai:Below (F (X wr)) wr wc
 blk:wc.heap[b]?=P (Vc #[v0,v1,v2,v3,v4,v5,v6,v7,v8,v9] 262)
def JT(w:W8)(b:Nat)(v0 v1 v2 v3 v4 v5 v6 v7 v8 v9:V9):W8:=Sc (Sc (Sc (Sc (Sc (Sc (Sc (Sc (Sc (Sc w (C b 0 G) v0) (C b 1 G) v1) (C b 2 G) v2) (C b 3 G) v3) (C b 4 G) v4) (C b 5 G) v5) (C b 6 G) v6) (C b 7 G) v7) (C b 8 G) v8) (C b 9 G) v9
def am1{t N}(w y z A B g i j D E)(h:a.heap[b]?=P (Vc #[c,d,e,f,k,l,m,n,o,N] t)):(JT a b w y z A B g i j D E).heap[b]?=P (Vc #[w,y,z,A,B,g,i,j,D,E] t):=by have K:=j9 _ _ 0 _ _ w h;have L:=j9 _ _ 1 _ _ y K;have M:=j9 _ _ 2 _ _ z L;have p:=j9 _ _ 3 _ _ A M;have q:=j9 _ _ 4 _ _ B p;have r:=j9 _ _ 5 _ _ g q;have s:=j9 _ _ 6 _ _ i r;have u:=j9 _ _ 7 _ _ j s;have v:=j9 _ _ 8 _ _ D u;have x:=j9 _ _ 9 _ _ E v;unfold JT;rw[x];simp
def am2(B)(w:b∈B)(c d f g h j l m n o):ak B a (JT a b c d f g h j l m n o):=by
 have e:∀{k:W8} (i:Nat) (u:V9),ak B a k->ak B a (Sc k (C b i G) u):=λi u k=>k.setCell (p:=(C b i G)) (.inl w) _
 exact e _ _ (e _ _ (e _ _ (e _ _ (e _ _ (e _ _ (e _ _ (e _ _ (e _ _ (e _ _ (ak.refl B a))))))))))
def sr.qw{W j}(wr:Below (F (X g)) g W)(b:Below (F (X W)) W a):sr g d e f c n o j k l m (F (X a)) (Al a (Vc #[d,e,f,c,n,o,j,k,l,m] 262)):=by have h:=wr.size;have i:=b.size;exact⟨(wr.trans (b.mono h)).alloc O _,aG a _⟩
def sr.ahead{W v0 v1 v2 v3 v4 v5 v6 v7 v8 v9 r}(t:Below (F (X a)) a W)(p:F (X a)<=b)(wr:W.heap[b]?=P (Vc #[k,l,m,n,o,c,d,r,e,f] 262))(q:Below (F (X W)) W g):sr a v0 v1 v2 v3 v4 v5 v6 v7 v8 v9 b (Sc (Sc (Sc (Sc (Sc (Sc (Sc (Sc (Sc (Sc g (C b 0 G) v0) (C b 1 G) v1) (C b 2 G) v2) (C b 3 G) v3) (C b 4 G) v4) (C b 5 G) v5) (C b 6 G) v6) (C b 7 G) v7) (C b 8 G) v8) (C b 9 G) v9):=by
 show sr a v0 v1 v2 v3 v4 v5 v6 v7 v8 v9 b (JT g b v0 v1 v2 v3 v4 v5 v6 v7 v8 v9)
 have h:=t.size;have i:=q.size;have s:=(aM.1 wr).1;refine⟨?_,am1 _ _ _ _ _ _ _ _ _ _ ((q.block b s).trans wr)⟩;exact ib (t.trans (q.mono h)) (am2 [b] oS _ _ _ _ _ _ _ _ _ _) O (λx j=>by rw[bu.1 j];exact p)
variable {c0 c4 c5 c6 c7 eu dv dy eh dn cJ cF bX bY bZ b7 b8 cc cd cg ck cm cy cz cC cD cE cK cL cM cQ cR cS cT cU cV cW cX cY cZ da cN cO de dh cG dz dA dB dC dD dE dF dG dH dO dP dQ dR ei ev ew ey ez eP eQ eR eS eT eU eV eA eB dW dX dY eC eD eE eF eG eH eI eJ eW eX eY eZ e8 e9 fa fi ee dN fo fp fq ft fu fM fN fO fP fw fx fy fC fD fE fF fG fH fj fk fl fI fJ fK fL eO dV gJ gK gL gM gN OT ja jb jc jd je iJ:V9}
noncomputable def JN(k:Nat):Code:=((f196.body.map sM).getD []).getD k .skip
def amV{l out cs k}(h:k<Z cs):eL l (cs.drop k) out=if 50<Z l+(Z out) then(out,Bt) else eL l (cs.drop (k+1)) (pc l out cs[k]):=by rw[dM h,eL]
def ali(w N d R hv bv r al cl)(vE:gV w N (U al (Z r) cl) r)(kK:Z r<=50)(c aw cw)(hws:Z c<=1000000)(pN:∀x∈c,Z x.fr<=100)(p:Ow w N 317 3 hv (Z R.ay.aq) (cellsOf R.ay.aq))(h4:Z R.ay.aq<=4)(hsz:∀x∈c,(fR (bk x.e R.ay)).length<=1000000000)(s n i T v9 out)(IU:Z out<=51)(q:eL (r.map (·.F)) ((c.map (·.W)).map (qA R s n i)) (out.map (·.F))=T)(w1)(u:qZ w d R hv bv (U aw (Z c) cw) c v9 out w1){Q} (k:∀v a w2 z D E o W y e g B L l f h j m u64 S t V M A u70 u71 u72 u73 u74 u75 u76 u77 u78 u79 u80 u81 u82 u83 u84 u85 u86 u87 u88 u89 u90 u91 u92 u93 u94 u95 u96 u97 u98 u99 K,qZ w d R hv bv (U aw (Z c) cw) c v a w2->Z a<=51->T=(a.map (·.F),Bf)->Q (.exit 2) ⟨List.toArray (c0::U al (Z r) cl::I J s::I J n::c4::c5::c6::c7::U G 0 0::v::I J i::Vp (P (C d 0 G))::U aw (Z c) cw::z::D::E::dy::eh::dn::cJ::cF::bX::bY::bZ::b7::b8::cc::cd::cg::ck::cm::cy::cz::cC::cD::cE::cK::cL::cM::cQ::cR::cS::cT::cU::cV::cW::cX::cY::cZ::da::cN::cO::o::W::y::e::g::B::L::l::f::h::j::m::u64::S::t::V::M::A::u70::u71::u72::u73::u74::u75::u76::u77::u78::u79::u80::u81::u82::u83::u84::u85::u86::u87::u88::u89::u90::u91::u92::u93::u94::u95::u96::u97::u98::u99::K::ee::dN::fo::fp::fq::ft::fu::fM::fN::fO::fP::fw::fx::fy::fC::fD::fE::fF::fG::fH::fj::fk::fl::fI::fJ::fK::fL::eO::dV::gJ::gK::gL::gM::gN::OT::ja::jb::jc::jd::je::iJ::[]),[]⟩ w2)(b:∀v a w2 z D E o W y e g B L l f h j m u64 S t V M A u70 u71 u72 u73 u74 u75 u76 u77 u78 u79 u80 u81 u82 u83 u84 u85 u86 u87 u88 u89 u90 u91 u92 u93 u94 u95 u96 u97 u98 u99 K,qZ w d R hv bv (U aw (Z c) cw) c v a w2->Z a<=51->T=(a.map (·.F),Bt)->Q .ret ⟨List.toArray (c0::U al (Z r) cl::I J s::I J n::c4::c5::c6::c7::v::v::I J i::Vp (P (C d 0 G))::U aw (Z c) cw::z::D::E::dy::eh::dn::cJ::cF::bX::bY::bZ::b7::b8::cc::cd::cg::ck::cm::cy::cz::cC::cD::cE::cK::cL::cM::cQ::cR::cS::cT::cU::cV::cW::cX::cY::cZ::da::cN::cO::o::W::y::e::g::B::L::l::f::h::j::m::u64::S::t::V::M::A::u70::u71::u72::u73::u74::u75::u76::u77::u78::u79::u80::u81::u82::u83::u84::u85::u86::u87::u88::u89::u90::u91::u92::u93::u94::u95::u96::u97::u98::u99::K::ee::dN::fo::fp::fq::ft::fu::fM::fN::fO::fP::fw::fx::fy::fC::fD::fE::fF::fG::fH::fj::fk::fl::fI::fJ::fK::fL::eO::dV::gJ::gK::gL::gM::gN::OT::ja::jb::jc::jd::je::iJ::[]),[]⟩ w2):Code.wp prog (Code.loop (JN 1)) Q ⟨List.toArray (c0::U al (Z r) cl::I J s::I J n::c4::c5::c6::c7::U G 0 0::v9::I J i::Vp (P (C d 0 G))::U aw (Z c) cw::I J (0:Nat)::eu::dv::dy::eh::dn::cJ::cF::bX::bY::bZ::b7::b8::cc::cd::cg::ck::cm::cy::cz::cC::cD::cE::cK::cL::cM::cQ::cR::cS::cT::cU::cV::cW::cX::cY::cZ::da::cN::cO::de::dh::cG::dz::dA::dB::dC::dD::dE::dF::dG::dH::dO::dP::dQ::dR::ei::ev::ew::ey::ez::eP::eQ::eR::eS::eT::eU::eV::eA::eB::dW::dX::dY::eC::eD::eE::eF::eG::eH::eI::eJ::eW::eX::eY::eZ::e8::e9::fa::fi::ee::dN::fo::fp::fq::ft::fu::fM::fN::fO::fP::fw::fx::fy::fC::fD::fE::fF::fG::fH::fj::fk::fl::fI::fJ::fK::fL::eO::dV::gJ::gK::gL::gM::gN::OT::ja::jb::jc::jd::je::iJ::[]),[]⟩ w1:=by
 conv=>arg 2;arg 1;whnf
 obtain⟨ah,ch,rfl⟩:=aF p;have R6:=H vE;have HI:=H u;have HX:=H k;have HY:=H b;have HSM:=H pN;have Gm:=H p;have lL:=H hsz;have K:=H q;clear vE u k b pN p hsz q
 go_loopg [8,9,13] (Z c) (λp k v b wr=>k=U G 0 0/\∃(k:Nat)(a:List FG),k<=Z c/\p=Z c-k/\b=I J k/\qZ w d R (U ah (Z R.ay.aq) ch) bv (U aw (Z c) cw) c v a wr/\(Z a)<=51/\eL (r.map (·.F)) (((c.map (·.W)).map (qA R s n i)).drop k) (a.map (·.F))=T)
 exact⟨rfl,0,out,aI _,rfl,rfl,ag HI,IU,ag K⟩
 case round=>
  clear HI K;obtain⟨rfl,k,a,_,_,rfl,u,K,q⟩:=hrel;obtain⟨a9,c9,rfl⟩:=aF u.out.row
  by_cases gA:k<Z c
  .have kf:(k:Int)<Z c:=O;have z:=amV (l:=r.map (·.F)) (out:=a.map (·.F)) (cs:=(c.map (·.W)).map (qA R s n i)) (k:=k) (oU gA);simp only[nB,bF]at z;have qh:=H (z.symm.trans q);have b:=u.ai.size;have Fa:=b;have b1:=u.lt;obtain⟨g5,c5,sJ,_,pM,_,_,x0,x1,x2⟩:=F6 u.ways.row gA;injection sJ with p i2 f
   subst p f;have p:=u.ways.aK _ (aN gA);obtain⟨Hw,Ig,Hz,Ih,f,x⟩:=p.jM.shape;obtain⟨D,E,h⟩:=aF p.fr;rw[f]at x0;rw[x]at x1;rw[h]at x2;obtain⟨y0,-⟩:=aj u.box 0;obtain⟨y1,-⟩:=aj u.box 1;obtain⟨y2,-⟩:=aj u.box 2;obtain⟨y3,-⟩:=aj u.box 3;obtain⟨y4,-⟩:=aj u.box 4;simp only[bt,aT,bx]at y0 y1 y2 y3 y4;have o:∀W,Below (F (X wr)) wr W->Calls prog 192 #[Va #[U Hw c[k].e.length Ig,U Hz c[k].e.length Ih],Va #[Y R.ay.ax,U ah (Z R.ay.aq) ch,Vb R.ay.no,I J R.ay.aC,I J R.ay.aO]] W (D4 W c[k].e R.ay):=λW M=>by
    have y:=u.ai.trans (M.mono b);have q1:=p.jM.ai M;rw[f,x]at q1;exact FV W 0 c[k].e R.ay Hw Hz ah Ig Ih ch ⟨aX q1.ns (aI _),aX q1.ts (aI _),q1.nil⟩ (aX (aQ (ag Gm) y (λg e=>((ag Gm).lt g e).2)) (aI _)) O
   have B:=H o;have HI:=H u;have hlen:=ag lL _ (aN gA);have L:=H p.fr;have RY:=H h;have HWK:=H (show qA R s n i c[k].W=⟨bk c[k].e R.ay,bI (bk c[k].e R.ay),s,n,i,c[k].fr⟩ from rfl);have d5:¬g5=F (X wr):=O;have db:¬d=F (X wr):=O
   have HK:Hid (∀W l:W8,Below (F (X wr)) wr W->Below (F (X W)) W l->Ce l (C g5 (k*3) G)=P (U Hw c[k].e.length Ig)/\Ce l (C g5 (k*3+1) G)=P (U Hz c[k].e.length Ih)/\Ce l (C d 0 G)=P (Y R.ay.ax)/\Ce l (C d 1 G)=P (U ah (Z R.ay.aq) ch)/\Ce l (C d 2 G)=P (Vb R.ay.no)/\Ce l (C d 3 G)=P (I J R.ay.aC)/\Ce l (C d 4 G)=P (I J R.ay.aO)):=H (λW l h1 h2=>by
    have y:=h1.trans (h2.mono h1.size)
    exact⟨(y.cell (oU pM)).trans x0,(y.cell (oU pM)).trans x1,(y.cell (oU b1)).trans y0,(y.cell (oU b1)).trans y1,(y.cell (oU b1)).trans y2,(y.cell (oU b1)).trans y3,(y.cell (oU b1)).trans y4⟩)
   clear u p o z q f x h b;go_upto_region 11 with fail
   go_cut [14] from 52 to 100 (λp wc=>∃b v,p=Vp (P (C b 0 G))/\M5 wr (bk c[k].e R.ay) b v wc)
   case first=>
    go_region_held3 (λl=>Ce l (C g5 (k*3) G)=P (U Hw c[k].e.length Ig)/\Ce l (C g5 (k*3+1) G)=P (U Hz c[k].e.length Ih)/\Ce l (C d 0 G)=P (Y R.ay.ax)/\Ce l (C d 1 G)=P (U ah (Z R.ay.aq) ch)/\Ce l (C d 2 G)=P (Vb R.ay.no)/\Ce l (C d 3 G)=P (I J R.ay.aC)/\Ce l (C d 4 G)=P (I J R.ay.aO)) (first|go_keep|(refine⟨?_,?_,?_,?_,?_,?_,?_⟩<;>(refine(JV ?_).trans ?_<;>assumption))) ((go_at_call 192;refine(ag B _ oB).mono ?_;rintro e w2⟨v,rfl,z,o⟩;obtain⟨x,f,rfl⟩:=aF z;obtain⟨m0,m1,m2,m3,m4,m5,_⟩:=ag HK _ _ oB o;have yS:=λ(j:Nat) h=>o.cell (p:=(C (F (X wr)) j G)) h;have yU:=λ(j:Nat) h=>o.frozen (p:=(C (F (X wr)) j G)) h;have m:=H z;clear z))
    all_goals
     go_wp2;go_meet
     case rel=>first|exact⟨_,_,rfl,M5.qw (W:=wr.drew) B9.drew o (ag m)⟩|exact⟨_,_,rfl,M5.ahead (W:=(Al wr (Vc #[Y ⟨#[]⟩,U G 0 0,Vb Bf,I J 0,I J 0] 243)).drew) oA.drew L9 (aG wr _) o (ag m)⟩
   case rest=>
    generalize wc=z at*;obtain⟨b,v,rfl,m⟩:=hcut;obtain⟨x,f,rfl⟩:=aF m.row;have IZ:=m.ai.size;have Cc:=(ag HI).zm m.ai;have z2:Ce z (C g5 (k*3+2) G)=P (U D c[k].fr.length E):=(m.ai.cell (oU pM)).trans x2;obtain⟨r0,-⟩:=aj m.blk 0;obtain⟨r1,-⟩:=aj m.blk 1;obtain⟨r2,-⟩:=aj m.blk 2;obtain⟨r3,-⟩:=aj m.blk 3;obtain⟨r4,-⟩:=aj m.blk 4;simp only[bt,aT,bx]at r0 r1 r2 r3 r4;have S:=(aM.1 m.blk).1;have t:=m.row;have V:=aQ (ag L) m.ai (λg e=>((ag L).lt g e).2);rw[ag RY]at V;have EX:∀W,Below (F (X z)) z W->Calls prog 134 #[Va #[Y (bk c[k].e R.ay).ax,U x (bk c[k].e R.ay).aq.length f,Vb Bf,I J 0,I J 0]] W λe l=>∃s:B8,e=Vr (Y s)/\s.data.toList=fR (bk c[k].e R.ay)/\Below (F (X W)) W l:=λW M=>uP W (F (X wr)) (bk c[k].e R.ay) x f Bf 0 0 (aQ t M (λg e=>(t.lt g e).2)) hlen
    have M:=H EX;have yg:=H Cc;have zH:=H t;have A:=H V;clear m Cc HI B HK x0 x1 x2 y0 y1 y2 y3 y4 EX t V L RY d5 db;have agG:g5<F (X z):=O;have d5:(F (X z))≠g5:=O;have db:(F (X z))≠b:=O;have V:(bk c[k].e R.ay).no=Bf/\(bk c[k].e R.ay).aC=0/\(bk c[k].e R.ay).aO=0:=⟨rfl,rfl,rfl⟩;generalize c[k].fr=t at*;generalize c[k].e=NE at*;generalize bk NE R.ay=B at*;have uU:=H V
    have HK:Hid (∀W l:W8,Below (F (X z)) z W->Below (F (X W)) W l->Ce l (C b 0 G)=P (Y B.ax)/\Ce l (C b 1 G)=P (U x (Z B.aq) f)/\Ce l (C b 2 G)=P (Vb Bf)/\Ce l (C b 3 G)=P (I J 0)/\Ce l (C b 4 G)=P (I J 0)/\Ce l (C g5 (k*3+2) G)=P (U D (Z t) E)):=H (λW l h1 h2=>by
     have y:=h1.trans (h2.mono h1.size)
     exact⟨(y.cell (oU S)).trans r0,(y.cell (oU S)).trans r1,(y.cell (oU S)).trans r2,(y.cell (oU S)).trans r3,(y.cell (oU S)).trans r4,(y.cell (oU agG)).trans z2⟩)
    have L:Hid (((Al z (Vc #[Y ⟨#[]⟩,U G 0 0,Vb Bf,I J 0,I J 0,Y ⟨#[]⟩,I J 0,I J 0,I J 0,U G 0 0] 262)).drew).heap[F (X z)]?=P (Vc #[Y ⟨#[]⟩,U G 0 0,Vb Bf,I J 0,I J 0,Y ⟨#[]⟩,I J 0,I J 0,I J 0,U G 0 0] 262)):=H (aG z _);clear V;go_upto_region 12 with fail
    go_cut [15] from 52 to 100 (λp wc=>∃MP,p=Vp (P (C MP 0 G))/\sr z (Y B.ax) (U x (Z B.aq) f) (Vb Bf) (I J 0) (I J 0) (Y (bI B)) (I J s) (I J n) (I J i) (U D (Z t) E) MP wc)
    case first=>
     go_region_held3 (λl=>Ce l (C b 0 G)=P (Y B.ax)/\Ce l (C b 1 G)=P (U x (Z B.aq) f)/\Ce l (C b 2 G)=P (Vb Bf)/\Ce l (C b 3 G)=P (I J 0)/\Ce l (C b 4 G)=P (I J 0)/\Ce l (C g5 (k*3+2) G)=P (U D (Z t) E)) (go_keep) ((go_at_call 134;refine(ag M _ oB).mono ?_;rintro e w2⟨_,rfl,l,o⟩;obtain rfl:=AQ l;obtain⟨m0,m1,m2,m3,m4,m5⟩:=ag HK _ _ oB o;have yS:=λ(j:Nat) h=>o.cell (p:=(C (F (X z)) j G)) h;have yU:=λ(j:Nat) h=>o.frozen (p:=(C (F (X z)) j G)) h;clear l))
     all_goals
      go_wp2;go_meet
      case rel=>
       refine⟨_,rfl,?_⟩
       first|(with_reducible refine sr.qw (W:=z.drew) ?_ o)|(with_reducible refine sr.ahead (W:=(Al z (Vc #[Y ⟨#[]⟩,U G 0 0,Vb Bf,I J 0,I J 0,Y ⟨#[]⟩,I J 0,I J 0,I J 0,U G 0 0] 262)).drew) ?_ L9 (ag L) o)
       all_goals first|exact B9.drew|exact oA.drew
    case rest=>
     generalize wc=wB at*;obtain⟨MP,rfl,m⟩:=hcut;have hsB:=m.ai.size;have W:=(ag yg).zm m.ai;have Fe:lk wB (F (X w)) ⟨⟨B,bI B,s,n,i,t⟩,U x (Z B.aq) f,U D (Z t) E⟩:=⟨aX (aQ (ag zH) m.ai (λg e=>((ag zH).lt g e).2)) Fa,aQ (ag A) m.ai (λg e=>((ag A).lt g e).2)⟩;have zI:=H Fe;obtain⟨_,-⟩:=aj m.blk 0;obtain⟨q1,-⟩:=aj m.blk 1;obtain⟨_,-⟩:=aj m.blk 2;obtain⟨_,-⟩:=aj m.blk 3;obtain⟨_,-⟩:=aj m.blk 4;obtain⟨_,-⟩:=aj m.blk 5;obtain⟨_,-⟩:=aj m.blk 6;obtain⟨_,-⟩:=aj m.blk 7;obtain⟨_,-⟩:=aj m.blk 8;obtain⟨_,-⟩:=aj m.blk 9;have l:=H W;have V:=aQ (ag R6).row W.ai (λg e=>((ag R6).row.lt g e).2);have j:=H (yK wB N al cl r (bI B) V);have p:=H (yK wB (F (X w)) a9 c9 a (bI B) W.out.row);clear m W Fe yg zH A M HK L r0 r1 r2 r3 r4 z2 V
     by_cases V:50<Z r+Z a
     .have hbi:(50:Int)<Z r+Z a:=O;have L:=H (show T=(a.map (·.F),Bt) by rw[<-ag qh,aD V]);clear qh;go_wp2_with fail;apply ag HY
      .exact ag l
      .exact K
      exact ag L
     have hbi:¬((50:Int)<Z r+Z a):=O;have L:=H (show eL (r.map (·.F)) (((c.map (·.W)).map (qA R s n i)).drop (k+1)) (pc (r.map (·.F)) (a.map (·.F)) ⟨B,bI B,s,n,i,t⟩)=T by rw[<-ag HWK];rw[<-ag qh,aB V]);clear qh;obtain⟨i0,sF,gB,dx,cB⟩:=info_parts I2;have W:FG.cells ⟨⟨B,bI B,s,n,i,t⟩,U x (Z B.aq) f,U D (Z t) E⟩=[Y B.ax,U x (Z B.aq) f,Vb Bf,I J 0,I J 0,Y (bI B),I J s,I J n,I J i,U D (Z t) E]:=by obtain⟨h1,h2,m⟩:=ag uU;simp only[FG.cells,h1,h2,m];rfl
     have m:=λ(w5:W8)(g cap:Nat)(hg:(Al wB (Vc #[Y B.ax,U x (Z B.aq) f,Vb Bf,I J 0,I J 0,Y (bI B),I J s,I J n,I J i,U D (Z t) E] 262)).grownBy w5 (U a9 (Z a) c9).ownBlock)(Of:Ow w5 (F (X w)) 262 10 (U (P (C g 0 G)) (Z a+1) cap) (Z a+1) (a.flatMap FG.cells++[Y B.ax,U x (Z B.aq) f,Vb Bf,I J 0,I J 0,Y (bI B),I J s,I J n,I J i,U D (Z t) E]))=>qZ.add (x:=⟨⟨B,bI B,s,n,i,t⟩,U x (Z B.aq) f,U D (Z t) E⟩) (ag l) (ag zI) ((ak.refl [] _).alloc _) hg (by rw[W];exact Of)
     have A:=H m;have HR:=H ((ag l).out.row.alloc (Vc #[Y B.ax,U x (Z B.aq) f,Vb Bf,I J 0,I J 0,Y (bI B),I J s,I J n,I J i,U D (Z t) E] 262));have M:=H (World.news_of_block (aG wB (Vc #[Y B.ax,U x (Z B.aq) f,Vb Bf,I J 0,I J 0,Y (bI B),I J s,I J n,I J i,U D (Z t) E] 262)));have Xr:=(ag l).ai.size;clear m W
     by_cases h1:dp (r.map (·.F)) (bI B)<0
     .by_cases h2:dp (a.map (·.F)) (bI B)<0
      .have m:=H (show eL (r.map (·.F)) (((c.map (·.W)).map (qA R s n i)).drop (k+1)) ((a++[(⟨⟨B,bI B,s,n,i,t⟩,U x (Z B.aq) f,U D (Z t) E⟩:FG)]).map (·.F))=T by
        have:=ag L;rw[pc,aD ⟨h1,h2⟩]at this
        rw[fg];exact this)
       generalize dp (r.map (·.F)) (bI B)=f1 at*;generalize dp (a.map (·.F)) (bI B)=f2 at*;clear L;go_wp2_with fail;refine(ag j).mono ?_;rintro e w4⟨rfl,W⟩;have vL:=W.symm;subst vL;clear W;go_wp2_with fail;refine(ag p).mono ?_;rintro e w4⟨rfl,W⟩;have vL:=W.symm;subst vL;clear W;clear j p;go_wp2_with(at_builtin;go_must (refine wpList_append_lies _ rfl _ _ _ rfl (F (X w)) 262 i0 (Va #[Y ⟨#[]⟩,U G 0 0,Vb Bf,I J 0,I J 0,Y ⟨#[]⟩,I J 0,I J 0,I J 0,U G 0 0]) 10 128 underlying250 sF gB dx cB rfl oD (U a9 (Z a) c9) (Z a) _ rfl (ag HR) (C (F (X wB)) 0 G) 1 1 [Y B.ax,U x (Z B.aq) f,Vb Bf,I J 0,I J 0,Y (bI B),I J s,I J n,I J i,U D (Z t) E] rfl rfl (ag M) (by simp[Value.oneCell']) oD oM O oT _ rfl ?_;intro g cap w5 W Cg aox rP));have HW5:=H (ag A w5 g cap Cg W);go_roundg(Z c-(k+1));exact⟨rfl,k+1,a++[⟨⟨B,bI B,s,n,i,t⟩,U x (Z B.aq) f,U D (Z t) E⟩],O,rfl,oN,ag HW5,by rw[br,sq];omega,ag m⟩;omega
      have m:=H (show eL (r.map (·.F)) (((c.map (·.W)).map (qA R s n i)).drop (k+1)) (a.map (·.F))=T by
       have:=ag L;rw[pc,aB (λh=>h2 h.2)]at this
       exact this)
      generalize dp (r.map (·.F)) (bI B)=f1 at*;generalize dp (a.map (·.F)) (bI B)=f2 at*;clear L A HR M;go_wp2_with fail;refine(ag j).mono ?_;rintro e w4⟨rfl,rfl⟩;go_wp2_with fail;refine(ag p).mono ?_;rintro e w4⟨rfl,rfl⟩;clear j p;go_wp2;go_roundg(Z c-(k+1));exact⟨rfl,k+1,a,O,rfl,oN,ag l,K,ag m⟩;omega
     have m:=H (show eL (r.map (·.F)) (((c.map (·.W)).map (qA R s n i)).drop (k+1)) (a.map (·.F))=T by
      have:=ag L;rw[pc,aB (λh=>h1 h.1)]at this
      exact this)
     generalize dp (r.map (·.F)) (bI B)=f1 at*;clear L A HR M p;go_wp2_with fail;refine(ag j).mono ?_;rintro e w4⟨rfl,rfl⟩;clear j;go_wp2;go_roundg(Z c-(k+1));exact⟨rfl,k+1,a,O,rfl,oN,ag l,K,ag m⟩;omega
  have HI:=H u;have b:=H (show T=(a.map (·.F),Bf) by rw[<-q,gE oT];rfl);clear u q;go_wp2_with fail;apply ag HX
  .exact ag HI
  .exact K
  exact ag b
variable {eM eN et:V9}
structure Eb(w:W8)(o:Nat)(rs:List RR)(ps:P9)(rv pv tv:V9)(gs:Nat)(S:Nat->Nat)(base:Nat)(fs:List FG)(lv:V9):Prop where
 prog:kC w o rs ps rv pv tv (U (P (C gs 0 G)) (Z ps) (Z ps))
 sf:jW w gs (Z ps) S
 bV:gV w base lv fs
 dc:Z fs<=50
 body:∀r∈rs,Z r.bs<=3
 aq:∀r∈rs,∀a∈r.R.ay::r.R.body,Z a.aq<=4
 xx:∀r∈rs,0<=aL ps r.R.ay.ax
 size:∀r∈rs,∀x∈j6 (fs.map (·.F)) r.R.body [([],[])],∀a∈r.R.ay::r.R.body,(fR (bk x.1 a)).length<=1000000000
def aeq{ps S l s n rs i}(h:i<Z rs):im ps S l s n (rs.drop i) i=(if S (aL ps rs[i].ay.ax).toNat=s then(lX rs[i] l).map (qA rs[i] s n i) else [])++im ps S l s n (rs.drop (i+1)) (i+1):=by rw[dM h];rfl
structure vl(w:W8)(v:V9)(out:List FG)(wr:W8):Prop where
 ai:Below (F (X w)) w wr
 out:gV wr (F (X w)) v out
variable {e:List FG}{a:V9}{b:W8}
def vl.zm{w wr}(h:vl w a e wr)(k:Below (F (X wr)) wr b):vl w a e b:=⟨h.ai.trans (k.mono h.ai.size),h.out.ai k⟩
variable {c d:Nat}
def oq.dS{v}(h:oq b c a v)(w:d<=c):oq b d a v:=⟨aX h.row w,λx e=>(h.aK x e).dS w⟩
def gV.dS(h:gV b c a e)(w:d<=c):gV b d a e:=⟨aX h.row w,λx v=>(h.aK x v).dS w⟩
def lN.dS{R f e}(h:lN b c R a f e)(w:d<=c):lN b d R a f e:=⟨aX h.hd w,aX h.bo w,λx g=>aX (h.bl x g) w,h.eq⟩
def alh(w o c j rv pv tv gs S z f E K)(d:Eb w o c j rv pv tv gs S z f (U E (Z f) K))(s n w1)(t:vl w (U G 0 0) [] w1){Q} (v:∀T b w2 R N y u p L g r m l q W e D B k V A u32 a x M u36 u37 u38 u39 u40 u41 u42 u43 u44 u45 u46 u47 u48 u49 u50 u51 u52 u53 u54 u55 u56 u57 u58 u59 u60 u61 u62 u63 u64 u65 u66 u67 u68 u69 u70 u71 u72 u73 u74 u75 u76 u77 u78 u79 u80 u81 u82 u83 u84 u85 u86 u87 u88 u89 u90 u91 u92 u93 u94 u95 u96 u97 u98 u99 i,vl w T b w2->Z b<=51->eL (f.map (·.F)) (im j S (f.map (·.F)) s n (c.map (·.R)) 0) []=(b.map (·.F),Bf)->Q (.exit 0) ⟨List.toArray (Vp (P (C o 0 G))::U E (Z f) K::I J s::I J n::c4::c5::c6::c7::U G 0 0::T::R::N::y::u::p::L::dy::eh::dn::cJ::g::r::m::l::q::W::e::D::B::k::V::A::u32::a::x::M::u36::u37::u38::u39::u40::u41::u42::u43::u44::u45::u46::u47::u48::u49::u50::u51::u52::u53::u54::u55::u56::u57::u58::u59::u60::u61::u62::u63::u64::u65::u66::u67::u68::u69::u70::u71::u72::u73::u74::u75::u76::u77::u78::u79::u80::u81::u82::u83::u84::u85::u86::u87::u88::u89::u90::u91::u92::u93::u94::u95::u96::u97::u98::u99::i::ee::dN::fo::fp::fq::ft::fu::fM::fN::fO::fP::fw::fx::fy::fC::fD::fE::fF::fG::fH::fj::fk::fl::fI::fJ::fK::fL::eO::dV::gJ::gK::gL::gM::gN::OT::ja::jb::jc::jd::je::iJ::[]),[]⟩ w2)(h:∀T b w2 R N y u p L g r m l q W e D B k V A u32 a x M u36 u37 u38 u39 u40 u41 u42 u43 u44 u45 u46 u47 u48 u49 u50 u51 u52 u53 u54 u55 u56 u57 u58 u59 u60 u61 u62 u63 u64 u65 u66 u67 u68 u69 u70 u71 u72 u73 u74 u75 u76 u77 u78 u79 u80 u81 u82 u83 u84 u85 u86 u87 u88 u89 u90 u91 u92 u93 u94 u95 u96 u97 u98 u99 i,vl w T b w2->Z b<=51->eL (f.map (·.F)) (im j S (f.map (·.F)) s n (c.map (·.R)) 0) []=(b.map (·.F),Bt)->Q .ret ⟨List.toArray (Vp (P (C o 0 G))::U E (Z f) K::I J s::I J n::c4::c5::c6::c7::T::T::R::N::y::u::p::L::dy::eh::dn::cJ::g::r::m::l::q::W::e::D::B::k::V::A::u32::a::x::M::u36::u37::u38::u39::u40::u41::u42::u43::u44::u45::u46::u47::u48::u49::u50::u51::u52::u53::u54::u55::u56::u57::u58::u59::u60::u61::u62::u63::u64::u65::u66::u67::u68::u69::u70::u71::u72::u73::u74::u75::u76::u77::u78::u79::u80::u81::u82::u83::u84::u85::u86::u87::u88::u89::u90::u91::u92::u93::u94::u95::u96::u97::u98::u99::i::ee::dN::fo::fp::fq::ft::fu::fM::fN::fO::fP::fw::fx::fy::fC::fD::fE::fF::fG::fH::fj::fk::fl::fI::fJ::fK::fL::eO::dV::gJ::gK::gL::gM::gN::OT::ja::jb::jc::jd::je::iJ::[]),[]⟩ w2):Code.wp prog (Code.loop (JN 0)) Q ⟨List.toArray (Vp (P (C o 0 G))::U E (Z f) K::I J s::I J n::c4::c5::c6::c7::U G 0 0::U G 0 0::I J (0:Nat)::eM::eN::et::eu::dv::dy::eh::dn::cJ::cF::bX::bY::bZ::b7::b8::cc::cd::cg::ck::cm::cy::cz::cC::cD::cE::cK::cL::cM::cQ::cR::cS::cT::cU::cV::cW::cX::cY::cZ::da::cN::cO::de::dh::cG::dz::dA::dB::dC::dD::dE::dF::dG::dH::dO::dP::dQ::dR::ei::ev::ew::ey::ez::eP::eQ::eR::eS::eT::eU::eV::eA::eB::dW::dX::dY::eC::eD::eE::eF::eG::eH::eI::eJ::eW::eX::eY::eZ::e8::e9::fa::fi::ee::dN::fo::fp::fq::ft::fu::fM::fN::fO::fP::fw::fx::fy::fC::fD::fE::fF::fG::fH::fj::fk::fl::fI::fJ::fK::fL::eO::dV::gJ::gK::gL::gM::gN::OT::ja::jb::jc::jd::je::iJ::[]),[]⟩ w1:=by
 conv=>arg 2;arg 1;whnf
 obtain⟨ar,cr,rfl⟩:=aF d.prog.bB;have mN:=ej d.prog.bB;unfold maxLen at mN;have HC:=H d;have HI:=H t;have HX:=H v;have HY:=H h;clear d t v h;generalize v:eL (f.map (·.F)) (im j S (f.map (·.F)) s n (c.map (·.R)) 0) []=T at HX HY;have h:=H v;clear v
 go_loopg [8,9,10] (Z c) (λR i v x wr=>i=U G 0 0/\∃(i:Nat)(b:List FG),i<=Z c/\R=Z c-i/\x=I J i/\vl w v b wr/\(Z b)<=51/\eL (f.map (·.F)) (im j S (f.map (·.F)) s n ((c.map (·.R)).drop i) i) (b.map (·.F))=T)
 exact⟨rfl,0,[],aI _,rfl,rfl,HI,oS,h⟩
 case round=>
  clear HI h;obtain⟨rfl,i,b,hi,hgi,rfl,t,R,h⟩:=hrel;obtain⟨a9,c9,rfl⟩:=aF t.out.row;have d:=ag HC;have v:=d.prog.kept ((ak.refl [] _).bC t.ai) oS;have x:=v.c0;have Od:=v.lt;have HI:=H t
  by_cases N:i<Z c
  .have tK:(i:Int)<Z c:=O;have y:=aeq (ps:=j) (S:=S) (l:=f.map (·.F)) (s:=s) (n:=n) (rs:=c.map (·.R)) (i:=i) (oU N);simp only[nB]at y;rw[y]at h;have HF:=H h;obtain⟨gr,M0,po,NT,qE,Oc,Aj,p0,M,p2,p3,p4,p5⟩:=pT v.bB i N;injection po with u q2 p
   subst u p;have u:=aN N;have p:=v.aK _ u;obtain⟨ah,ch,L⟩:=aF p.hd;obtain⟨ab,cb,e2⟩:=aF p.bo;have Xv:=t.ai.size;rw[L]at M;rw[e2]at p5;have g:=H u;have HE:=H (And.intro L e2);clear d v t y h p L e2 u;go_upto_region 5 with fail
   go_cut [11] from 20 to 100 (λp wc=>p=Vp (P (C (F (X wr)) 0 G))/\wc.heap[F (X wr)]?=P (Vc #[Y c[i].R.ay.ax,U ah c[i].R.ay.aq.length ch,Vb c[i].R.ay.no,I J c[i].R.ay.aC,I J c[i].R.ay.aO,U ab c[i].bs.length cb] 246)/\Below (F (X wr)) wr wc)
   case first=>
    go_wp2;go_meet
    case rel=>exact⟨rfl,aG wr _,B9.alloc L9 _⟩
   case rest=>
    generalize wc=wA at*;obtain⟨rfl,u,y⟩:=hcut;have r:=HI.zm y;have d:=ag HC;have v:=d.prog.kept ((ak.refl [] _).bC r.ai) oS;have m:=d.sf.kept ((ak.refl [] _).bC r.ai);obtain⟨r0,-⟩:=aj u 0;simp only[bt,aT]at r0;have kV:=(aM.1 u).1;have c3:=v.c3;have WX:=v.lt;have l:=d.xx _ g;have V:=mS l;obtain⟨p,q⟩:∃p:Nat,aL j c[i].R.ay.ax=(p:Int):=⟨_,(DK l).symm⟩;have vF:p<Z j:=O;have t1:=m.cell p vF;have Cj:=m.sz;have A:∀W,Below (F (X wA)) wA W->Calls prog 135 #[Vp (P (C o 0 G)),Y c[i].R.ay.ax] W λe a=>e=Vr (I J (p:Nat))/\a=W:=λW D=>by
     have:=sP W o c j _ _ _ _ c[i].R.ay.ax (v.kept ((ak.refl [] _).bC D) oS);rw[q]at this;exact this
    have D:=H A;have Gp:=H q;have B:=H r;have k:=H u;have sk:=H y;have EK:(p:Int)<Z j:=O;have EJ:(0:Int)<=p:=O;have rQ:=ej v.oE;clear r d v m A q u y l V HI p0 M p2 p3 p4 p5 x;go_upto_region 6 with fail
    go_cut [48] from 20 to 100 (λu wc=>u=Vb ((S p:Int) != (s:Int))/\Below (F (X wA)) wA wc)
    case first=>
     go_region_held3 (λa=>Ce a (C o 3 G)=P (U (P (C gs 0 G)) (Z j) (Z j))/\Ce a (C (F (X wr)) 0 G)=P (Y c[i].R.ay.ax)/\Ce a (C gs p G)=P (I J (S p))) (go_keep) ((go_at_call 135;refine(D _ (by exact B9.drew)).mono ?_;rintro e w2⟨rfl,rfl⟩))
     all_goals
      go_wp2;go_meet
      case rel=>exact⟨rfl,B9.drew⟩
    case rest=>
     generalize wc=wB at*;obtain⟨rfl,l⟩:=hcut;have m:=B.zm l;have u:=(l.block _ kV).trans k;have WJ:F (X wr)<F (X wB):=(oF l.size);have r:=H m
     cases y:((S p:Int) != (s:Int)) with
     |true=>
      have q:¬S p=s:=by simp at y;omega
      have W:=H (show eL (f.map (·.F)) (im j S (f.map (·.F)) s n ((c.map (·.R)).drop (i+1)) (i+1)) (b.map (·.F))=T by
       have:=ag HF;rw[ag Gp,Int.toNat_natCast,aB q]at this
       simpa using this)
      clear m u HF D B k sk l y q r0 c3 t1;go_wp2;go_roundg(Z c-(i+1));exact⟨rfl,i+1,b,O,rfl,oN,r,R,W⟩;omega
     |false=>
      have q:S p=s:=(by simp at y;omega);have VE:eL (f.map (·.F)) ((lX c[i].R (f.map (·.F))).map (qA c[i].R s n i)++im j S (f.map (·.F)) s n ((c.map (·.R)).drop (i+1)) (i+1)) (b.map (·.F))=T:=by have:=ag HF;rw[ag Gp,Int.toNat_natCast,aD q]at this;exact this
      have W:=H VE;have d:=ag HC;obtain⟨L,e2⟩:=ag HE;have Ol:=(d.prog.aK _ g).dS (aI _);have V:=(Ol.kept ((ak.refl [] _).bC m.ai) oS);rw[L,e2]at V;have A:vs wB 0 c[i].R (U ah c[i].R.ay.aq.length ch) c[i].bs (U ab c[i].bs.length cb) f (U E (Z f) K):=⟨V,(d.bV.ai m.ai).dS (aI _),d.dc,d.body _ g,λa M=>d.aq _ g a (bG _ M)⟩;have Cz:=abq wB 0 c[i].R _ c[i].bs _ f E K A (λx hx a M=>d.size _ g x hx a (bG _ M));unfold oJ at Cz;have GA:=H Cz;obtain⟨m0,-⟩:=aj u 0;obtain⟨m1,-⟩:=aj u 1;obtain⟨m2,-⟩:=aj u 2;obtain⟨m3,-⟩:=aj u 3;obtain⟨m4,-⟩:=aj u 4;obtain⟨m5,-⟩:=aj u 5;have M:=Ol.hd;rw[L]at M;have Gm:=H M;have a:=H u;clear m u HF D B k sk l y q r0 c3 t1 VE d L e2 Ol V A Cz M;go_wp2_with fail;refine(GA).mono ?_;rintro e wC⟨vw,ws,rfl,V,M,u,oy,L⟩;obtain⟨aw,cw,rfl⟩:=aF V.row;have B:=r.zm L;have D:qZ w (F (X wr)) c[i].R (U ah c[i].R.ay.aq.length ch) (U ab c[i].bs.length cb) (U aw (Z ws) cw) ws (U a9 (Z b) c9) b wC:=⟨B.ai,Xv,(L.block _ WJ).trans a,V.dS (oF r.ai.size),B.out⟩;have y:=H D;have q:=H M;have l:=H u;have d:=ag HC;have hsz:∀x∈ws,(fR (bk x.e c[i].R.ay)).length<=1000000000:=λx hx=>by
       have k:x.W∈lX c[i].R (f.map (·.F)):=(by rw[<-M];exact fW hx);exact d.size _ g x.W (gI.1 k).1 _ bz
      have k:=H hsz;have A:=H (d.bV.dS (aI z));have m:=d.dc;have h4:=d.aq _ g _ bz;clear d hsz D B V M u L GA m0 m1 m2 m3 m4 m5 a r;go_wp2_with fail;refine ali w 0 (F (X wr)) c[i].R _ _ f E K A m ws aw cw oy (λx hx=>(l x hx).2) Gm h4 k s n i _ _ b R rfl wC y ?_ ?_
      .intro v9 x D;intros;rename_i a L u;obtain⟨M,V,rfl⟩:=aF a.out.row;have r:=H (show vl w (U M (Z x) V) x D from ⟨a.ai,a.out⟩)
       have B:=H (show eL (f.map (·.F)) (im j S (f.map (·.F)) s n ((c.map (·.R)).drop (i+1)) (i+1)) (x.map (·.F))=T by
        rw[ag q]at u
        rw[<-ag W,aaK _ _ _ (by rw[u]),u])
       clear a u W q l k A y;go_wp2;go_roundg(Z c-(i+1));exact⟨rfl,i+1,x,O,rfl,oN,r,L,B⟩;omega
      intro v9 x D;intros;rename_i a L u;have r:=H (show vl w v9 x D from ⟨a.ai,a.out⟩)
      have B:=H (show T=(x.map (·.F),Bt) by
       rw[ag q]at u
       rw[<-ag W,aaO _ _ _ (by rw[u]),u])
      clear a u W q l k A y;go_wp2_with fail;apply HY
      .exact r
      .exact L
      exact B
  have HE:=H (show T=(b.map (·.F),Bf) by rw[<-h,gE oT];rfl);clear t h d v;go_wp2_with fail;apply HX
  .exact HI
  .exact R
  exact HE
variable {b c:aP}
def Mv :jX c b=Bt↔c.s<b.s\/(c.s=b.s/\(c.h<b.h\/(c.h=b.h/\fc c.text b.text=Bt))):=by
 unfold jX
 by_cases a:c.s=b.s
 .by_cases d:c.h=b.h
  .simp[a,d]
  simp[a,d]
 simp[a]
def ad5(h:jX c b=Bt):jX b c=false:=by
 cases d:jX b c with
 |false=>rfl
 |true=>rw[Mv]at h d;rcases h with h|⟨h,f|⟨f,i⟩⟩<;>rcases d with g|⟨g,e|⟨e,a⟩⟩<;>first|omega|(rw[Yf i]at a;cases a)
def ad6{a}(e:jX a b=Bf)(d:jX b c=Bf):jX a c=false:=by
 cases h:jX a c with
 |false=>rfl
 |true=>
  rw[<-DH,Mv]at e d;rw[Mv]at h
  cases j:fc a.text b.text with
  |true=>
   rw[j]at e
   cases f:fc b.text c.text with
   |true=>rw[f]at d;simp only[vf]at e d;omega
   |false=>rw[f]at d;simp only[vf,qi,BJ,DW]at e d;rcases h with g|⟨g,i|⟨i,_⟩⟩<;>omega
  |false=>
   rw[j]at e
   cases f:fc b.text c.text with
   |true=>rw[f]at d;simp only[vf,qi,BJ,DW]at e d;rcases h with g|⟨g,i|⟨i,_⟩⟩<;>omega
   |false=>rw[f]at d;have:=Yd j f;rw[this]at h;simp only[qi,BJ,DW]at e d h;omega
def vp(zs:List FG):Prop:=zs.Pairwise λx y=>jX y.F x.F=Bf
structure Bp(A:List FG)(x:FG)(B:List FG):Prop where
 vW:vp (A++B)
 up:∀b∈B,jX x.F b.F=Bt
variable {a d:List FG}
def Bp.down{A x}(h:Bp (a++[A]) x d)(B:jX x.F A.F=Bt):Bp a x (A::d):=
 ⟨by have:=h.vW;simpa using this,λb c=>by rcases bS.1 c with rfl|c;exact B;exact h.up b c⟩
def Bp.done{x}(h:Bp a x d)(l:∀c A,a=c++[A]->jX x.F A.F=Bf):vp (a++x::d):=by
 have b:=h.vW;unfold vp at b⊢;rw[ym]at b⊢;obtain⟨j,k,B⟩:=b;refine⟨j,BB.2 ⟨λb f=>ad5 (h.up b f),k⟩,λA b y f=>?_⟩;rcases bS.1 f with rfl|f
 .rcases Bz a with e|⟨c,g,e⟩
  .subst e;cases b
  rw[Bw]at e;have i:=l c g e;subst e;rcases aS.1 b with b|b
  .have:=(ym.1 j).2.2 A b g oS;exact ad6 i this
  rw[bu.1 b];exact i
 exact B A b y f
def afX(a):∀i x,i<Z a->((((((((((a.flatMap FG.cells).set (i*10) (Y x.F.aH.ax)).set (i*10+1) x.tv).set (i*10+2) (Vb x.F.aH.no)).set (i*10+3) (I J x.F.aH.aC)).set (i*10+4) (I J x.F.aH.aO)).set (i*10+5) (Y x.F.text)).set (i*10+6) (I J x.F.s)).set (i*10+7) (I J x.F.h)).set (i*10+8) (I J x.F.r)).set (i*10+9) x.fv=(a.set i x).flatMap FG.cells:=by
 induction a with
 |nil=>intro i x h;simp at h
 |cons z r b=>
  intro i x h
  cases i with
  |zero=>simp[FG.cells]
  |succ i=>
   have:=b i x (oU h);rw[iH,lY,lY,<-this];have e:∀j,(i+1)*10+j=i*10+j+10:=λj=>by omega
   have j:(i+1)*10=i*10+10:=O;rw[e 1,e 2,e 3,e 4,e 5,e 6,e 7,e 8,e 9,j];simp[FG.cells]
def vX(w:W8)(g k:Nat)(x:FG):W8:=Sc (Sc (Sc (Sc (Sc (Sc (Sc (Sc (Sc (Sc w (C g (k*10) G) (Y x.F.aH.ax)) (C g (k*10+1) G) x.tv) (C g (k*10+2) G) (Vb x.F.aH.no)) (C g (k*10+3) G) (I J x.F.aH.aC)) (C g (k*10+4) G) (I J x.F.aH.aO)) (C g (k*10+5) G) (Y x.F.text)) (C g (k*10+6) G) (I J x.F.s)) (C g (k*10+7) G) (I J x.F.h)) (C g (k*10+8) G) (I J x.F.r)) (C g (k*10+9) G) x.fv
variable {e:Nat}{f:W8}
def JW(B)(b:e∈B)(k x):ak B f (vX f e k x):=by
 have w:∀{a:W8} (i:Nat) (u:V9),ak B f a->ak B f (Sc a (C e i G) u):=λi u k=>k.setCell (p:=(C e i G)) (.inl b) _
 exact w _ _ (w _ _ (w _ _ (w _ _ (w _ _ (w _ _ (w _ _ (w _ _ (w _ _ (w _ _ (ak.refl B f))))))))))
def gV.vX{g c k:Nat}{x:FG}(h:gV f e (U (P (C g 0 G)) (Z d) c) d)(l:k<Z d)(m:lk f e x):gV (vX f g k x) e (U (P (C g 0 G)) (Z d) c) (d.set k x):=by
 have a:=lI (lI (lI (lI (lI (lI (lI (lI (lI (lI h.row (k*10) (Y x.F.aH.ax)) (k*10+1) x.tv) (k*10+2) (Vb x.F.aH.no)) (k*10+3) (I J x.F.aH.aC)) (k*10+4) (I J x.F.aH.aO)) (k*10+5) (Y x.F.text)) (k*10+6) (I J x.F.s)) (k*10+7) (I J x.F.h)) (k*10+8) (I J x.F.r)) (k*10+9) x.fv;rw[afX _ k x l]at a;have w:ak [g] f (Go.Proofs.YtldkpahaocjdpaaGreat.vX f g k x):=JW [g] oS k x;have i:∀b∈[g],er f 317 b:=λb y=>gl h.row oD b (by simpa[Value.ownBlock]using y)
 have j:∀b∈[g],er f 3 b:=λb y=>gl h.row oD b (by simpa[Value.ownBlock]using y)
 refine⟨by rw[GV];exact a,λy b=>?_⟩;rcases List.mem_or_eq_of_mem_set b with b|rfl
 .exact(h.aK y b).iT w i j
 exact m.iT w i j
variable {c1 c2 c3 c8 ed:V9}
def abz(m:Nat)(h:m<=1000):IntKind.i64.wrap (m:Int)=m:=by simp[IntKind.wrap,IntKind.signed,IntKind.bits];omega
variable {c:List FG}{a d f g:Nat}{h:V9}{b i:W8}
def gV.split(v:gV b a h c)(f:d<Z c):∃g w,h=U (P (C g 0 G)) (Z c) w/\a<=g/\g<F (X b)/\(Z c)<=w/\w<=maxLen/\(F (X b))=F (X b):=by obtain⟨g,w,l,k,i,j,e,_⟩:=qB v.row f;exact⟨g,w,l,k,i,j,e,rfl⟩
def B6(h:gV b a (U (P (C g 0 G)) e d) c)(n:f<Z c){x}(j:c[f]=x):Ce b (C g (f*10) G)=P (Y x.F.aH.ax)/\Ce b (C g (f*10+1) G)=P x.tv/\Ce b (C g (f*10+2) G)=P (Vb x.F.aH.no)/\Ce b (C g (f*10+3) G)=P (I J x.F.aH.aC)/\Ce b (C g (f*10+4) G)=P (I J x.F.aH.aO)/\Ce b (C g (f*10+5) G)=P (Y x.F.text)/\Ce b (C g (f*10+6) G)=P (I J x.F.s)/\Ce b (C g (f*10+7) G)=P (I J x.F.h)/\Ce b (C g (f*10+8) G)=P (I J x.F.r)/\Ce b (C g (f*10+9) G)=P x.fv:=by
 obtain⟨_,_,i,_,_,_,_,w⟩:=qB h.row n;injection i with k l m
 injection k with k
 injection k with k
 subst k;rw[j]at w;exact⟨w 0 oD,w 1 oD,w 2 oD,w 3 oD,w 4 oD,w 5 oD,w 6 oD,w 7 oD,w 8 oD,w 9 oD⟩
def lk.shape{x}(h:lk b a x):∃w c d e,x.tv=U w (Z x.F.aH.aq) c/\x.fv=U d (Z x.F.fr) e:=by obtain⟨w,c,f⟩:=aF h.t;obtain⟨d,e,g⟩:=aF h.i;exact⟨w,c,d,e,f,g⟩
def gV.fz(h:gV b a (U (P (C g 0 G)) d e) c):∀j,b.frozen? (C g j G)=false:=CV h.row
structure mX(w:W8)(base:Nat)(v:V9)(zs:List FG)(wr:W8):Prop where
 ai:Below (F (X w)) w wr
 bV:gV wr base v zs
 ge:F (X w)<=base
def mX.zm{wr}(w:mX i a h c wr)(k:Below (F (X wr)) wr b):mX i a h c b:=⟨w.ai.trans (k.mono w.ai.size),w.bV.ai k,w.ge⟩
def mX.set{w a g c k e d x wr n}(i:n=Z e)(h:mX w a (U (P (C g 0 G)) n c) e wr)(j:k<Z e)(l:lk wr a x)(b:e.set k x=d):mX w a (U (P (C g 0 G)) n c) d (vX wr g k x):=by subst i;subst b;have m:=(h.bV.row.lt g rfl).1;have i:=h.ge;exact⟨ib h.ai (JW [g] oS k x) h.ai.size (λb f=>by rw[bu.1 f];omega),h.bV.vX j l,h.ge⟩
def alk(w j R n k)(agR:n<=1000)(D y c i)(B:Z D=i)(A:n=(D++y::c).length)(a:vp D)(w1)(S:mX w j (U R n k) (D++y::c) w1){Q} (x:∀u w2 u17 u18 u19 W e f h v b K E d g p q l o T V L M t r N m s z u132 u133 u134 u135 u136 u137 u138 u139 u140,mX w j (U R n k) (u++c) w2->vp u->u.Perm (D++[y])->Q (.exit 6) ⟨List.toArray (c0::c1::c2::c3::c4::c5::c6::c7::c8::U R n k::ed::eM::eN::et::eu::dv::I J i::u17::u18::u19::cF::bX::bY::bZ::b7::b8::cc::cd::cg::ck::cm::cy::cz::cC::cD::cE::cK::cL::cM::cQ::cR::cS::cT::cU::cV::cW::cX::cY::cZ::da::cN::cO::de::dh::cG::dz::dA::dB::dC::dD::dE::dF::dG::dH::dO::dP::dQ::dR::ei::ev::ew::ey::ez::eP::eQ::eR::eS::eT::eU::eV::eA::eB::dW::dX::dY::eC::eD::eE::eF::eG::eH::eI::eJ::eW::eX::eY::eZ::e8::e9::fa::fi::ee::dN::fo::fp::fq::ft::fu::W::e::f::h::v::b::K::E::d::g::p::q::l::o::T::V::L::M::t::r::N::m::s::z::u132::u133::u134::u135::u136::u137::u138::u139::u140::iJ::[]),[]⟩ w2):Code.wp prog (Code.loop (JN 3)) Q ⟨List.toArray (c0::c1::c2::c3::c4::c5::c6::c7::c8::U R n k::ed::eM::eN::et::eu::dv::I J i::I J i::dn::cJ::cF::bX::bY::bZ::b7::b8::cc::cd::cg::ck::cm::cy::cz::cC::cD::cE::cK::cL::cM::cQ::cR::cS::cT::cU::cV::cW::cX::cY::cZ::da::cN::cO::de::dh::cG::dz::dA::dB::dC::dD::dE::dF::dG::dH::dO::dP::dQ::dR::ei::ev::ew::ey::ez::eP::eQ::eR::eS::eT::eU::eV::eA::eB::dW::dX::dY::eC::eD::eE::eF::eG::eH::eI::eJ::eW::eX::eY::eZ::e8::e9::fa::fi::ee::dN::fo::fp::fq::ft::fu::fM::fN::fO::fP::fw::fx::fy::fC::fD::fE::fF::fG::fH::fj::fk::fl::fI::fJ::fK::fL::eO::dV::gJ::gK::gL::gM::gN::OT::ja::jb::jc::jd::je::iJ::[]),[]⟩ w1:=by
 conv=>arg 2;arg 1;whnf
 have HI:=H S;have HX:=H x;have HNL:=H A;have u:=H B;have W:=H a;have rM:i<=1000:=by rw[br,ff]at A;omega
 clear S x A B a
 go_loopg [17] i (λa e wr=>∃(A:List FG)(x:FG)(B:List FG),a=Z A/\e=I J (Z A)/\(Z A)<=i/\mX w j (U R n k) (A++x::(B++c)) wr/\Bp A x B/\(A++x::B).Perm (D++[y]))
 exact⟨D,y,[],u.symm,by rw[ag u],wR u,HI,⟨by rw[kO];exact W,oS⟩,DL _⟩
 case round=>
  clear HI W u;obtain⟨A,x,B,Ch,rfl,Vq,S,W,u⟩:=hrel;rcases Bz A with e|⟨f,a,e⟩
  .subst e;have HI:=H (show mX w j (U R n k) ((x::B)++c) wr from S);have HS:=H (show vp (x::B) from W.done (λf a h=>by simp at h));have HP:=H (show(x::B).Perm (D++[y]) from u);clear S W u;go_wp2_with fail;apply HX
   .exact HI
   .exact HS
   exact HP
  rw[Bw]at e;subst e;have v:n=(f++a::x::(B++c)).length:=by have h1:=ag HNL;have h2:=u.length_eq;simp only[br,ff,kB]at h1 h2⊢;omega
  have b:mX w j (U R n k) (f++a::x::(B++c)) wr:=by simpa using S
  have K:(f++[a]).length=Z f+1:=oS
  rw[K];rw[K]at Ch Vq;have E:Z f+1<(f++a::x::(B++c)).length:=oS
  have WL:Z f<(f++a::x::(B++c)).length:=oS
  have gx:(f++a::x::(B++c))[Z f+1]=x:=oS
  have ga:(f++a::x::(B++c))[Z f]=a:=oS
  have ET:=b.bV.row;rw[v]at b;obtain⟨g,_,hv,_,d,yY,_,-⟩:=b.bV.split E;injection hv with p q2 q
  subst p q;rw[<-v]at b;have ap8:n<=k:=by rw[v];exact yY
  obtain⟨x1,x2,x3,x4,p,q⟩:=(b.bV.aK x oS).shape;obtain⟨a1,a2,a3,a4,l,o⟩:=(b.bV.aK a oS).shape;obtain⟨p0,T,p2,p3,p4,p5,p6,p7,p8,V⟩:=B6 b.bV E gx;obtain⟨r0,L,r2,r3,r4,r5,r6,r7,r8,M⟩:=B6 b.bV WL ga;rw[p]at T;rw[q]at V;rw[l]at L;rw[o]at M;have N9:Z f+1<n:=by rw[v];exact E
  have HI:=H b;have Sm:=H v;have t:=H W;have r:=H u;have N:=H (And.intro (And.intro p q) (And.intro l o));obtain⟨m,hm⟩:∃m,Z f=m:=⟨_,rfl⟩;rw[hm]at p0 T p2 p3 p4 p5 p6 p7 p8 V r0 L r2 r3 r4 r5 r6 r7 r8 M N9 Ch Vq⊢;have s:=H hm;have z:((m+1:Nat):Int)=(m:Int)+1:=O
  rw[z];clear z;have w0:IntKind.i64.wrap (m:Int)=m:=abz m O;have w1':IntKind.i64.wrap ((m:Int)+1-1)=m:=by rw[Int.add_sub_cancel];exact w0
  have i1:(m:Int)+1<n:=O
  have i2:(m:Int)<n:=O
  have i3:(0:Int)<(m:Int)+1:=O
  have i4:(0:Int)<=(m:Int)+1:=O
  clear S b ET v W u K E WL gx ga p q l o hm yY;have E:=H (aZ (F (X wr)) wr);go_upto_region 23 with fail
  go_cut [18] from 108 to 140 (λu wc=>u=Vb (jX x.F a.F)/\Below (F (X wr)) wr wc)
  case first=>
    have v:Hid (∀W b:W8,Below (F (X wr)) wr W->Below (F (X W)) W b->Ce b (C g ((m+1)*10) G)=P (Y x.F.aH.ax)/\Ce b (C g ((m+1)*10+1) G)=P (U x1 (Z x.F.aH.aq) x2)/\Ce b (C g ((m+1)*10+2) G)=P (Vb x.F.aH.no)/\Ce b (C g ((m+1)*10+3) G)=P (I J x.F.aH.aC)/\Ce b (C g ((m+1)*10+4) G)=P (I J x.F.aH.aO)/\Ce b (C g ((m+1)*10+5) G)=P (Y x.F.text)/\Ce b (C g ((m+1)*10+6) G)=P (I J x.F.s)/\Ce b (C g ((m+1)*10+7) G)=P (I J x.F.h)/\Ce b (C g ((m+1)*10+8) G)=P (I J x.F.r)/\Ce b (C g ((m+1)*10+9) G)=P (U x3 (Z x.F.fr) x4)/\Ce b (C g (m*10) G)=P (Y a.F.aH.ax)/\Ce b (C g (m*10+1) G)=P (U a1 (Z a.F.aH.aq) a2)/\Ce b (C g (m*10+2) G)=P (Vb a.F.aH.no)/\Ce b (C g (m*10+3) G)=P (I J a.F.aH.aC)/\Ce b (C g (m*10+4) G)=P (I J a.F.aH.aO)/\Ce b (C g (m*10+5) G)=P (Y a.F.text)/\Ce b (C g (m*10+6) G)=P (I J a.F.s)/\Ce b (C g (m*10+7) G)=P (I J a.F.h)/\Ce b (C g (m*10+8) G)=P (I J a.F.r)/\Ce b (C g (m*10+9) G)=P (U a3 (Z a.F.fr) a4)):=H (λW b h1 h2=>by
     have W:=h1.trans (h2.mono h1.size)
     exact⟨(W.cell (oU d)).trans p0,(W.cell (oU d)).trans T,(W.cell (oU d)).trans p2,(W.cell (oU d)).trans p3,(W.cell (oU d)).trans p4,(W.cell (oU d)).trans p5,(W.cell (oU d)).trans p6,(W.cell (oU d)).trans p7,(W.cell (oU d)).trans p8,(W.cell (oU d)).trans V,(W.cell (oU d)).trans r0,(W.cell (oU d)).trans L,(W.cell (oU d)).trans r2,(W.cell (oU d)).trans r3,(W.cell (oU d)).trans r4,(W.cell (oU d)).trans r5,(W.cell (oU d)).trans r6,(W.cell (oU d)).trans r7,(W.cell (oU d)).trans r8,(W.cell (oU d)).trans M⟩)
    go_region_held3 (λb=>Ce b (C g ((m+1)*10) G)=P (Y x.F.aH.ax)/\Ce b (C g ((m+1)*10+1) G)=P (U x1 (Z x.F.aH.aq) x2)/\Ce b (C g ((m+1)*10+2) G)=P (Vb x.F.aH.no)/\Ce b (C g ((m+1)*10+3) G)=P (I J x.F.aH.aC)/\Ce b (C g ((m+1)*10+4) G)=P (I J x.F.aH.aO)/\Ce b (C g ((m+1)*10+5) G)=P (Y x.F.text)/\Ce b (C g ((m+1)*10+6) G)=P (I J x.F.s)/\Ce b (C g ((m+1)*10+7) G)=P (I J x.F.h)/\Ce b (C g ((m+1)*10+8) G)=P (I J x.F.r)/\Ce b (C g ((m+1)*10+9) G)=P (U x3 (Z x.F.fr) x4)/\Ce b (C g (m*10) G)=P (Y a.F.aH.ax)/\Ce b (C g (m*10+1) G)=P (U a1 (Z a.F.aH.aq) a2)/\Ce b (C g (m*10+2) G)=P (Vb a.F.aH.no)/\Ce b (C g (m*10+3) G)=P (I J a.F.aH.aC)/\Ce b (C g (m*10+4) G)=P (I J a.F.aH.aO)/\Ce b (C g (m*10+5) G)=P (Y a.F.text)/\Ce b (C g (m*10+6) G)=P (I J a.F.s)/\Ce b (C g (m*10+7) G)=P (I J a.F.h)/\Ce b (C g (m*10+8) G)=P (I J a.F.r)/\Ce b (C g (m*10+9) G)=P (U a3 (Z a.F.fr) a4)) (go_keep) ((go_at_call 231;refine(ad4 _ x.F a.F x1 x3 a1 a3 _ _ _ _ x2 x4 a2 a4).mono ?_;rintro e w2⟨rfl,K⟩;obtain⟨_,_,_,_,_,_,_,_,_,_,_,_,_,_,_,_,_,_,_,_⟩:=ag v _ _ (by exact B9.drew) K;have z:=H ((aZ (F (X wr)) wr).drew.trans (K.mono (by exact bD _)));clear K))
    all_goals
     go_wp2;go_meet
     case rel=>exact⟨rfl,z⟩
  case rest=>
   generalize wc=K at*;obtain⟨rfl,z⟩:=hcut;have b:=HI.zm z;have Gn:=H b;clear p0 T p2 p3 p4 p5 p6 p7 p8 V r0 L r2 r3 r4 r5 r6 r7 r8 M E
   cases E:jX x.F a.F with
   |false=>
    have HS:=H (show vp (f++a::x::B) by
     have:=t.done (λv a2 h=>by
      have:=LM h rfl;have h2:a=a2:=by simpa using this.2
      rw[<-h2];exact E)
     simpa using this)
    have HP:=H (show(f++a::x::B).Perm (D++[y]) by simpa using ag r);have v:=H (show mX w j (U (P (C g 0 G)) n k) ((f++a::x::B)++c) K by simpa using b);clear b t r E z;go_wp2_with fail;apply HX
    .exact v
    .exact HS
    exact HP
   |true=>
    have v:(f++a::x::(B++c))[m+1]'(by have:=ag s;simp;omega)=x:=by have:=ag s;subst this;simp
    have W:(f++a::x::(B++c))[m]'(by have:=ag s;simp;omega)=a:=by have:=ag s;subst this;simp
    obtain⟨⟨p,q⟩,⟨l,o⟩⟩:=ag N;obtain⟨p0,T,p2,p3,p4,p5,p6,p7,p8,V⟩:=B6 b.bV _ v;rw[p]at T;rw[q]at V;have ye:=H (t.down E)
    have pD:=H (show(f++x::(a::B)).Perm (D++[y]) from by
     refine List.Perm.trans ?_ r;rw[qT]
     exact S3 _ (List.Perm.swap _ _ _))
    have aoI:g<F (X K):=(oF z.size);clear b t r E z v W p q l o;go_upto_region 25 with fail
    go_cut [19] from 108 to 140 (λu wc=>u=Vp (P (C (F (X K)) 0 G))/\wc.heap[F (X K)]?=P (Vc #[Y x.F.aH.ax,U x1 (Z x.F.aH.aq) x2,Vb x.F.aH.no,I J x.F.aH.aC,I J x.F.aH.aO,Y x.F.text,I J x.F.s,I J x.F.h,I J x.F.r,U x3 (Z x.F.fr) x4] 262)/\Below (F (X K)) K wc)
    case first=>
     go_wp2;go_meet
     case rel=>exact⟨rfl,aG K _,B9.alloc L9 _⟩
    case rest=>
     generalize wc=wB at*;obtain⟨rfl,S,Vw⟩:=hcut;have u:=Gn.zm Vw;obtain⟨⟨p,q⟩,⟨l,o⟩⟩:=ag N;have E:m+1<(f++a::x::(B++c)).length:=(by have:=ag s;simp;omega);have t:m<(f++a::x::(B++c)).length:=(by have:=ag s;simp;omega);have v:(f++a::x::(B++c))[m+1]=x:=by have:=ag s;subst this;simp
     have W:(f++a::x::(B++c))[m]=a:=by have:=ag s;subst this;simp
     obtain⟨s0,s1,s2,s3,s4,s5,s6,s7,s8,s9⟩:=B6 u.bV E v;obtain⟨r0,L,r2,r3,r4,r5,r6,r7,r8,M⟩:=B6 u.bV t W;rw[l]at L;rw[o]at M;have fz:=u.bV.fz;have r:(f++a::x::(B++c)).set (m+1) a=f++a::a::(B++c):=by have:=ag s;subst this;simp
     have z:=mX.set (x:=a) Sm u E (u.bV.aK a oS) r;have h:lk (vX wB g (m+1) a) j x:=(u.bV.aK x oS).iT (JW [g] oS (m+1) a) (λb hb=>gl u.bV.row oD b (by simpa[Value.ownBlock]using hb)) (λb hb=>gl u.bV.row oD b (by simpa[Value.ownBlock]using hb));have b:(vX wB g (m+1) a).heap[F (X K)]?=P (Vc #[Y x.F.aH.ax,U x1 (Z x.F.aH.aq) x2,Vb x.F.aH.no,I J x.F.aH.aC,I J x.F.aH.aO,Y x.F.text,I J x.F.s,I J x.F.h,I J x.F.r,U x3 (Z x.F.fr) x4] 262):=by rw[(JW [g] oS (m+1) a).block _ (aM.1 S).1 oT];exact S
     unfold vX at z b h;rw[l,o]at z b h;have R7:=H h;have HR:=H z;have Sj:=H b;clear u S Vw E t v W r z b h p0 T p2 p3 p4 p5 p6 p7 p8 V p q l o Gn;go_upto_region 26 with fail
     go_cut [] from 108 to 140 (λwc=>mX w j (U (P (C g 0 G)) n k) (f++a::a::(B++c)) wc/\lk wc j x/\wc.heap[F (X K)]?=P (Vc #[Y x.F.aH.ax,U x1 (Z x.F.aH.aq) x2,Vb x.F.aH.no,I J x.F.aH.aC,I J x.F.aH.aO,Y x.F.text,I J x.F.s,I J x.F.h,I J x.F.r,U x3 (Z x.F.fr) x4] 262))
     case first=>
      go_wp2;go_meet
      case rel=>exact⟨HR,R7,Sj⟩
     case rest=>
      generalize wc=V at*;obtain⟨v,h,b⟩:=hcut;clear HR Sj R7 s0 s1 s2 s3 s4 s5 s6 s7 s8 s9 r0 L r2 r3 r4 r5 r6 r7 r8 M fz;obtain⟨⟨p,q⟩,⟨l,o⟩⟩:=N;have t:m<(f++a::a::(B++c)).length:=(by have:=ag s;simp;omega);have W:(f++a::a::(B++c))[m]=a:=by have:=ag s;subst this;simp
      obtain⟨r0,L,r2,r3,r4,r5,r6,r7,r8,M⟩:=B6 v.bV t W;obtain⟨s0,-⟩:=aj b 0;obtain⟨s1,-⟩:=aj b 1;obtain⟨s2,-⟩:=aj b 2;obtain⟨s3,-⟩:=aj b 3;obtain⟨s4,-⟩:=aj b 4;obtain⟨s5,-⟩:=aj b 5;obtain⟨s6,-⟩:=aj b 6;obtain⟨s7,-⟩:=aj b 7;obtain⟨s8,-⟩:=aj b 8;obtain⟨s9,-⟩:=aj b 9;have fz:=v.bV.fz;have r:(f++a::a::(B++c)).set m x=f++x::a::(B++c):=by have:=ag s;subst this;simp
      have u:n=(f++a::a::(B++c)).length:=(by have:=ag Sm;simp at this⊢;omega);have z:=mX.set (x:=x) u v t h r;unfold vX at z;rw[p,q]at z;have HR:=H (show mX w j (U (P (C g 0 G)) n k) (f++x::((a::B)++c)) _ from z);clear v h b t W r u z p q l o;go_wp2;go_roundg m;exact⟨f,x,a::B,s.symm,by rw[ag s],by rw[ag s];omega,HR,ye,pD⟩;omega
def alj(w e q n f)(x:n<=1000)(c)(i:n=Z c)(w1)(g:mX w e (U q n f) c w1){Q} (a:∀d w2 u16 u17 u18 u19 o t m y r k l b p h j s u v z A B D E K L M N R S T V W u129 u130 u131 u132 u133 u134 u135 u136 u137 u138 u139 u140,mX w e (U q n f) d w2->vp d->d.Perm c->Q (.exit 4) ⟨List.toArray (c0::c1::c2::c3::c4::c5::c6::c7::c8::U q n f::ed::eM::eN::et::eu::dv::u16::u17::u18::u19::cF::bX::bY::bZ::b7::b8::cc::cd::cg::ck::cm::cy::cz::cC::cD::cE::cK::cL::cM::cQ::cR::cS::cT::cU::cV::cW::cX::cY::cZ::da::cN::cO::de::dh::cG::dz::dA::dB::dC::dD::dE::dF::dG::dH::dO::dP::dQ::dR::ei::ev::ew::ey::ez::eP::eQ::eR::eS::eT::eU::eV::eA::eB::dW::dX::dY::eC::eD::eE::eF::eG::eH::eI::eJ::eW::eX::eY::eZ::e8::e9::fa::fi::o::t::m::y::r::k::l::b::p::h::j::s::u::v::z::A::B::D::E::K::L::M::N::R::S::T::V::W::u129::u130::u131::u132::u133::u134::u135::u136::u137::u138::u139::u140::iJ::[]),[]⟩ w2):Code.wp prog (Code.loop (JN 2)) Q ⟨List.toArray (c0::c1::c2::c3::c4::c5::c6::c7::c8::U q n f::ed::eM::eN::et::eu::dv::I J 1::eh::dn::cJ::cF::bX::bY::bZ::b7::b8::cc::cd::cg::ck::cm::cy::cz::cC::cD::cE::cK::cL::cM::cQ::cR::cS::cT::cU::cV::cW::cX::cY::cZ::da::cN::cO::de::dh::cG::dz::dA::dB::dC::dD::dE::dF::dG::dH::dO::dP::dQ::dR::ei::ev::ew::ey::ez::eP::eQ::eR::eS::eT::eU::eV::eA::eB::dW::dX::dY::eC::eD::eE::eF::eG::eH::eI::eJ::eW::eX::eY::eZ::e8::e9::fa::fi::ee::dN::fo::fp::fq::ft::fu::fM::fN::fO::fP::fw::fx::fy::fC::fD::fE::fF::fG::fH::fj::fk::fl::fI::fJ::fK::fL::eO::dV::gJ::gK::gL::gM::gN::OT::ja::jb::jc::jd::je::iJ::[]),[]⟩ w1:=by
 conv=>arg 2;arg 1;whnf
 have o:=H g;have L:=H a;have t:=H i;clear g a i
 go_loopg [16] (n-1) (λy r wr=>∃(i:Nat)(m a:List FG),y=n-i/\r=I J i/\i<=n+1/\1<=i/\mX w e (U q n f) (m++a) wr/\vp m/\(m++a).Perm c/\(Z m=i\/c=[]))
 case atStart=>
  have g:=ag o
  cases c with
  |nil=>exact⟨1,[],[],rfl,rfl,O,bD _,g,List.Pairwise.nil,DL _,.inr rfl⟩
  |cons y r=>exact⟨1,[y],r,rfl,rfl,O,bD _,g,List.pairwise_singleton _ _,DL _,.inl rfl⟩
 case round=>
  clear o;obtain⟨i,m,a,M,rfl,S,N,g,l,r,k⟩:=hrel;have b:(m++a).length=n:=by rw[r.length_eq,ag t]
  by_cases T:i<n
  .have R:(i:Int)<n:=O;have p:Z m=i:=by
    rcases k with h|h
    .exact h
    have:=ag t;rw[h]at this;simp at this;omega
   cases a with
   |nil=>simp at b;omega
   |cons y a=>have o:=H g;have j:=H l;have z:=H r;have K:=H p;have s:=H b;clear g l r p k b;go_wp2_with fail;refine alk w e q n f x m y a i K s.symm j wr o ?_;intro d V;intros;rename_i u v p;have A:=H u;have E:=H v;have D:=H (show(d++a).Perm c from((S4 a p).trans (by rw[qT];exact DL _)).trans z);have B:=H (show(Z d)=i+1 by rw[p.length_eq,br,ag K];rfl);clear u v p o j z K s;go_wp2;go_roundg(n-(i+1));exact⟨i+1,d,a,rfl,oN,O,O,A,E,D,.inl B⟩;omega
  have A:a=[]:=by
   rcases k with h|h
   .rw[br]at b;exact wK O
   rw[h]at r;have:=r.eq_nil;exact(LL.1 this).2
  subst A;rw[kO]at g r;have o:=H g;have j:=H l;have z:=H r;clear g l r k b;go_wp2_with fail;apply L
  .exact o
  .exact j
  exact z
structure Ed(w:W8)(l:List aP)(T:List aP×Bool)(v:V9)(out:List FG)(w':W8):Prop where
 bV:gV w' (F (X w)) v out
 dc:Z out<=51
 ai:Below (F (X w)) w w'
 stop:T.2=Bt->out.map (·.F)=T.1
 FF:T.2=Bf->vp out/\(out.map (·.F)).Perm T.1
def acH(w:W8)(l:List aP)(T:List aP×Bool):Ending->W8->Prop:=λe w'=>∃v out,e=Vr v/\Ed w l T v out w'
def alm(w o p m E D K A S d b x y)(a:Eb w o p m E D K A S d b (U x (Z b) y))(s n:Nat):Calls prog 196 #[Vp (P (C o 0 G)),U x (Z b) y,I J s,I J n] w (acH w (b.map (·.F)) (eL (b.map (·.F)) (im m S (b.map (·.F)) s n (p.map (·.R)) 0) [])):=by
 have L:=H a;have t:=H (show vl w (U G 0 0) [] w from ⟨aZ _ _,dm _ _ _ _,oS⟩);clear a;go_in;go_wp2_with fail;refine alh w o p m E D K A S d b x y L s n w t ?_ ?_
 .intro M a r;intros;rename_i c B g;obtain⟨i,j,rfl⟩:=aF c.out.row;have z:=H (show mX w (F (X w)) (U i (Z a) j) a r from ⟨c.ai,c.out,bD _⟩);have v:=H g;clear c g t;go_wp2_with fail;refine alj w (F (X w)) i (Z a) j O a rfl r z ?_;intro q N;intros;rename_i e k f;have l:=f.length_eq;have u:=H (show Ed w (b.map (·.F)) (eL (b.map (·.F)) (im m S (b.map (·.F)) s n (p.map (·.R)) 0) []) (U i (Z a) j) q N from ⟨e.bV,O,e.ai,(λh=>by rw[ag v]at h;cases h),λ_=>⟨k,by rw[ag v];exact f.map _⟩⟩);clear e k f z v l;go_wp2;go_ret;exact⟨_,q,rfl,u⟩
 intro M a r;intros;rename_i c B g;obtain⟨i,j,rfl⟩:=aF c.out.row;have u:=H (show Ed w (b.map (·.F)) (eL (b.map (·.F)) (im m S (b.map (·.F)) s n (p.map (·.R)) 0) []) (U i (Z a) j) a r from ⟨c.out,B,c.ai,λ_=>by rw[g],λh=>by rw[g]at h;cases h⟩);clear c g t;go_ret;exact⟨_,a,rfl,u⟩
def nz(e:ec):Prop:=∀p∈e,p.2.size<=1000
def BW(ts:List ie):Prop:=∀t∈ts,t.text.size<=1000
def nA(f:aP):Prop:=BW f.aH.aq
structure wu(a:aR):Prop where
 pd:a.ax.size<=1000
 ts:BW a.aq
 dc:Z a.aq<=4
variable {b:ec}
def afq(h:nz b)(n):(tI b n).size<=1000:=by
 induction b with
 |nil=>simp[tI,ByteArray.size]
 |cons x r e=>
  rw[tI]
  split
  .exact h x bz
  exact e (λp a=>h p (bG _ a))
def aft(h:nz b){t}(a:t.text.size<=1000):(nK b t).size<=1000:=by
 unfold nK
 split
 .exact afq h _
 exact a
def O4:∀(d b:List ie)(e x:ec),nz e->BW b->mz e d b=P x->nz x
 | [],b,e,x,h,_,a=>by cases b<;>(rw[mz]at a<;>first|(cases a;exact h)|simp_all)
 |t::d,[],e,x,h,_,a=>by rw[mz]at a<;>first|(cases a;exact h)|simp_all
 |t::d,u::b,e,x,h,hu,a=>by
  have c:BW b:=λx p=>hu x (bG _ p)
  rw[mz]at a
  split at a
  .refine O4 d b _ _ (λp x=>?_) c a;rcases aS.1 x with x|x
   .exact h p x
   rw[bu.1 x];exact hu u bz
  split at a
  .exact O4 d b _ _ h c a
  cases a
variable {d:aR}
def YG{c t}(h:nz b)(a:BW t.aq)(e:gY b d t=P c):nz c:=by
 unfold gY at e
 split at e
 .exact O4 _ _ _ _ h a e
 cases e
def abj{x:kR}(b:nz x.1):∀(l:List aP)(i:Nat),(∀f∈l,nA f)->∀y∈jU d x l i,nz y.1
 | [],_,_,y,l=>by simp[jU]at l
 |f::r,i,hl,y,l=>by
  rw[jU,aS]at l;rcases l with l|l
  .split at l
   .rename_i e g;rw[bu.1 l];exact YG b (hl f bz) g
   simp at l
  exact abj b r (i+1) (λg e=>hl g (bG _ e)) y l
variable {a h:List aP}
def abo(c:∀f∈a,nA f):∀(b:List aR)(now:List kR),(∀x∈now,nz x.1)->∀y∈j6 a b now,nz y.1
 | [],now,h,y,hy=>h y hy
 |l::r,now,h,y,hy=>by
  rw[j6]at hy;refine abo c r _ ?_ y hy
  split
  .exact h
  intro x y;obtain⟨z,b,y⟩:=gh.1 y;exact abj (h z b) a 0 c x y
def Ra(l:∀f∈a,nA f)(b):∀y∈j6 a b [([],[])],nz y.1:=abo l b _ (λx p=>by rw[bu.1 p];intro p x;cases x)
def JP:∀(x:List (Bool×B8))(i:Nat),(∀t∈x,t.2.size<=1000)->(gH x i).length<=Z x*1001
 | [],_,_=>by simp[gH]
 |t::r,i,h=>by
  have b:=JP r (i+1) (λx a=>h x (bG _ a));have a:=h t bz;rw[gH,ff,br,ff,wT];have:t.2.data.toList.length=t.2.size:=mU _;omega
def Jv(c:nz b)(e:wu d):BW (bk b d).aq:=by intro t a;obtain⟨u,f,rfl⟩:=aU.1 a;exact aft c (e.ts u f)
def Ju(a:nz b)(e:wu d):(fR (bk b d)).length<=1000000000:=by
 have c:=JP ((bk b d).aq.map fV) 0 (λt f=>by
  obtain⟨u,t,rfl⟩:=aU.1 f
  exact Jv a e u t)
 have u:(bk b d).aq.length=Z d.aq:=by simp[bk]
 have t:=e.dc;have f:=e.pd;unfold fR gW;rw[bF,u]at c;rw[br,br];have g:(bk b d).ax.data.toList.length=d.ax.size:=mU _;have h:(if((bk b d).aq.map fV).length=0 then([]:List UInt8) else [41]).length<=1:=by split<;>simp
 have i:Z d.aq*1001<=4*1001:=yn _ t;omega
def ad1{f}(b:∀x∈h,nA x)(c:nA f):∀x∈pc a h f,nA x:=by
 intro x l;unfold pc at l
 split at l
 .rcases aS.1 l with l|l
  .exact b x l
  rw[bu.1 l];exact c
 exact b x l
def aaN{l:List aP}:∀(a g:List aP),(∀f∈a,nA f)->(∀x∈g,nA x)->∀x∈(eL l a g).1,nA x
 | [],g,_,h=>h
 |f::r,g,hc,h=>by
  rw[eL]
  split
  .exact h
  exact aaN r _ (λg x=>hc g (bG _ x)) (ad1 h (hc f bz))
variable {e:P9}{c:Nat}
def T6{S:Nat->Nat}(b:∀s∈a,nA s):∀(x:List bg)(i:Nat),(∀R∈x,∀l∈R.ay::R.body,wu l)->∀s∈im e S a c f x i,nA s
 | [],_,_,s,l=>by simp[im]at l
 |R::r,i,hr,s,l=>by
  rw[im,aS]at l;rcases l with l|l
  .split at l
   .obtain⟨x,Q,rfl⟩:=aU.1 l;exact Jv (Ra b R.body x (gI.1 Q).1) (hr R bz _ bz)
   simp at l
  exact T6 b r (i+1) (λQ x=>hr Q (bG _ x)) s l
def uq(ps:P9)(S:Nat->Nat)(rs:List bg)(l:List aP)(s n:Nat)(out:List aP):Prop:=
 ((eL l (im ps S l s n rs 0) []).2=Bt/\out=(eL l (im ps S l s n rs 0) []).1)\/((eL l (im ps S l s n rs 0) []).2=Bf/\out.Pairwise (λx y=>jX y x=Bf)/\out.Perm (eL l (im ps S l s n rs 0) []).1)
inductive oQ (ps:P9)(S:Nat->Nat)(rs:List bg)(limit s:Nat):Nat->List aP->Option (List aP)->Prop
 |over {n:Nat} {l out:List aP}:uq ps S rs l s n out->limit<Z l+Z out->oQ ps S rs limit s n l G
 |done {n:Nat} {l:List aP}:uq ps S rs l s n []->Z l<=limit->oQ ps S rs limit s n l (P l)
 |jP {n:Nat} {l out:List aP} {r:Option (List aP)}:uq ps S rs l s n out->out≠[]->Z l+Z out<=limit->oQ ps S rs limit s (n+1) (l++out) r->oQ ps S rs limit s n l r
inductive kH (ps:P9)(S:Nat->Nat)(rs:List bg)(limit AB:Nat):Nat->List aP->Option (List aP)->Prop
 |lE {s:Nat} {l:List aP}:AB<s->kH ps S rs limit AB s l (P l)
 |fails {s:Nat} {l:List aP}:s<=AB->oQ ps S rs limit s 1 l G->kH ps S rs limit AB s l G
 |next {s:Nat} {l l':List aP} {r:Option (List aP)}:s<=AB->oQ ps S rs limit s 1 l (P l')->kH ps S rs limit AB (s+1) l' r->kH ps S rs limit AB s l r
variable {g:List FG}{i:List bg}{j:V9}{k l:W8}
def Ed.rel{S}(h:Ed k a (eL a (im e S a c f i 0) []) j g l):uq e S i a c f (g.map (·.F)):=by
 cases b:(eL a (im e S a c f i 0) []).2 with
 |true=>exact .inl ⟨b,h.stop b⟩
 |false=>obtain⟨w,d⟩:=h.FF b;exact .inr ⟨b,wO.2 w,d⟩
def uq.ok{S}(b:uq e S i a c f h)(d:∀n∈a,nA n)(l:∀R∈i,∀s∈R.ay::R.body,wu s):∀n∈h,nA n:=by
 have s:=aaN (l:=a) (im e S a c f i 0) [] (T6 d i 0 l) oS;rcases b with⟨_,rfl⟩|⟨_,_,g⟩
 .exact s
 exact λn R=>s n (g.mem_iff.1 R)
def gV.app{f d a}(h:gV k c j g)(n:∀x∈a,lk k c x)(W:ak [] k l)(m:l.grownBy f j.ownBlock)(e:Ow f c 262 10 d (Z g+Z a) (g.flatMap FG.cells++a.flatMap FG.cells)):gV f c d (g++a):=by
 have x:ak j.ownBlock.toList k f:=(W.mono oS).trans (ak.jF m);have i:∀b∈j.ownBlock.toList,er k 317 b:=gl h.row oD;have v:∀b∈j.ownBlock.toList,er k 3 b:=gl h.row oD;refine⟨?_,λy b=>?_⟩
 .rw[br,oc];exact e
 rcases aS.1 b with b|b
 .exact(h.aK y b).iT x i v
 exact(n y b).iT x i v
noncomputable def Pf(k:Nat):Code:=((f138.body.map sM).getD []).getD k .skip
structure sw(w:W8)(o:Nat)(rs:List RR)(ps:P9)(rv pv tv:V9)(gs:Nat)(S:Nat->Nat):Prop where
 prog:kC w o rs ps rv pv tv (U (P (C gs 0 G)) (Z ps) (Z ps))
 sf:jW w gs (Z ps) S
 body:∀r∈rs,Z r.bs<=3
 gS:∀r∈rs,∀a∈r.R.ay::r.R.body,wu a
 xx:∀r∈rs,0<=aL ps r.R.ay.ax
structure su(w:W8)(v:V9)(fs:List FG)(wr:W8):Prop where
 ai:Below (F (X w)) w wr
 bV:gV wr (F (X w)) v fs
 ok:∀f∈fs.map (·.F),nA f
variable {e:List FG}{b g h:Nat}{a:W8}
def su.ctx{j g k i l S v wr}(h:su a v e wr)(o:sw a b j g k i l c S)(m:Z e<=50):Eb wr b j g k i l c S (F (X a)) e v:=
 ⟨o.prog.kept ((ak.refl [] _).bC h.ai) oS,o.sf.kept ((ak.refl [] _).bC h.ai),h.bV,m,o.body,λr f w d=>(o.gS r f w d).dc,o.xx,λr f x n w d=>Ju (Ra h.ok _ x n) (o.gS r f w d)⟩
def aev(h:∀x∈e,lk a b x):∀u∈e.flatMap FG.cells,u.oneCell'=true:=by intro u c;obtain⟨x,f,c⟩:=gh.1 c;obtain⟨_,_,_,_,d,w⟩:=(h x f).shape;simp only[FG.cells,d,w,bS,BA,DW]at c;rcases c with rfl|rfl|rfl|rfl|rfl|rfl|rfl|rfl|rfl|rfl<;>rfl
variable {f:V8}
def aa2{e d}(n:Ow a c e b (U (P (C g 0 G)) h d) h f):∀j u,f[j]?=P u->Ce a (((C g 0 G):Addr).add j)=P u:=by
 intro j u i;have p:=n.1;have k:j<Z f:=(qj.1 i).1;rcases n.2 with⟨w,_⟩|⟨_,_,_,l,_,_,_,_,_,_⟩
 .cases w
 injection l with w m o
 injection w with w
 injection w with w
 subst w;have:=n.cellAt j O;unfold Addr.add
 split<;>simp_all
variable {d:Exit->Act->W8->Prop}
def abw{b Q c o w}(e:o.guard=G)(s x t)(i:o.op=.call { callee:=.builtin .append,args:=#[s,x],argTypes:=#[t,t] })(v f)(k:w.eval s=v)(l:w.eval x=f)(j:∀g,(Builtin.append_ #[t,t] g #[v,f]).run b a=.ok v a)(h:wpList b Q d c (w.put o.dst v) a):wpList b Q d (o::c) w a:=
 Hd e λ_ g=>by
  unfold Oper.wp execOp;simp only[i,resolve,invoke,builtin,wV,yq,wU,List.map_toArray,ir,vc,k,l,j];exact g _ _ h
def adG(w b n c)(h:n<=c)(a d g):(Builtin.append_ #[250,250] g #[U b n c,U a 0 d]).run prog w=.ok (U b n c) w:=by
 obtain⟨f,e,_,_,_⟩:=info_parts I2;refine run_append_nothing w _ _ _ 262 f underlying250 e b n c h _ ?_
 cases a with
 |none=>exact Src.ofNil w underlying250 d
 |some a=>exact Src.ofSlice w underlying250 a 0 d [] oS oS oS
def ajE{e w}(n:Ow a b e g (U w h c) h f):h<=c:=by
 rcases n.2 with⟨i,_⟩|⟨_,_,_,d,_,_,_,_,_,_⟩
 .omega
 injection d with i j k
 omega
def aiR(w o L K rv pv tv gs S)(T:sw w o L K rv pv tv gs S)(c s)(hlim:c<=50)(v6 z)(kK:Z z<=c)(w1)(k:su w v6 z w1)(v:∀j Q p r h g l m q e i M a R t x D B u A b f y E,su w j Q p->Z Q<=c->oQ K S (L.map (·.R)) c s 1 (z.map (·.F)) (P (Q.map (·.F)))->d (.exit 4) ⟨List.toArray (Vp (P (C o 0 G))::I J c::c2::c3::U G 0 0::Vb Bf::j::c7::c8::I J s::r::h::g::et::eu::dv::dy::eh::dn::cJ::cF::bX::bY::bZ::b7::b8::cc::cd::cg::ck::cm::cy::cz::cC::cD::cE::l::m::q::e::i::M::a::R::t::x::D::B::u::A::b::f::y::E::cG::[]),[]⟩ p)(n:∀j p r h g l m q e i M a R t x D B u A b f y E,Below (F (X w)) w p->oQ K S (L.map (·.R)) c s 1 (z.map (·.F)) G->d .ret ⟨List.toArray (Vp (P (C o 0 G))::I J c::c2::c3::U G 0 0::Vb Bf::j::c7::c8::I J s::r::h::g::et::eu::dv::dy::eh::dn::cJ::cF::bX::bY::bZ::b7::b8::cc::cd::cg::ck::cm::cy::cz::cC::cD::cE::l::m::q::e::i::M::a::R::t::x::D::B::u::A::b::f::y::E::cG::[]),[]⟩ p):Code.wp prog (Code.loop (Pf 2)) d ⟨List.toArray (Vp (P (C o 0 G))::I J c::c2::c3::U G 0 0::Vb Bf::v6::c7::c8::I J s::Vb Bt::I J 1::eN::et::eu::dv::dy::eh::dn::cJ::cF::bX::bY::bZ::b7::b8::cc::cd::cg::ck::cm::cy::cz::cC::cD::cE::cK::cL::cM::cQ::cR::cS::cT::cU::cV::cW::cX::cY::cZ::da::cN::cO::de::dh::cG::[]),[]⟩ w1:=by
 conv=>arg 2;arg 1;whnf
 have HC:=H T;have j:=H k;have HX:=H v;have HY:=H n;clear T k v n;obtain⟨i0,sF,gB,dx,cB⟩:=info_parts I2
 go_loopg [4,5,6,10,11] (2*(51-Z z)+1) (λr n g v T h wr=>n=U G 0 0/\g=Vb Bf/\∃(n:Nat)(jP:Bool)(Q:List FG),h=I J n/\T=Vb jP/\(Z Q)<=c/\n<=Z Q+2/\(jP=Bt->n<=Z Q+1)/\r=2*(51-Z Q)+(if jP then 1 else 0)/\su w v Q wr/\(jP=Bt->∀r,oQ K S (L.map (·.R)) c s n (Q.map (·.F)) r->oQ K S (L.map (·.R)) c s 1 (z.map (·.F)) r)/\(jP=Bf->oQ K S (L.map (·.R)) c s 1 (z.map (·.F)) (P (Q.map (·.F)))))
 exact⟨rfl,rfl,1,Bt,z,rfl,rfl,kK,O,λ_=>O,rfl,j,λ_ r h=>h,λh=>by cases h⟩
 case round=>
  clear j;obtain⟨rfl,rfl,n,jP,Q,rfl,rfl,m,M,l,Ci,k,v,g⟩:=hrel;obtain⟨T,V,rfl⟩:=aF k.bV.row;have j:=H k
  cases jP with
  |false=>
   have q:=H (g rfl);clear k v g Ci l;go_wp2_with fail;apply HX
   .exact j
   .exact m
   exact q
  |true=>
   have q:=H (v rfl);have ap4:=l rfl;have e:=alm wr o L K rv pv tv gs S (F (X w)) Q T V (k.ctx HC O) s n;have i:=H e;clear k v g e l M;simp only[lM]at Ci;go_wp2_with fail;refine(i).mono ?_;rintro e p⟨_,v,rfl,k⟩;have hrel:=k.rel;have l:=j.bV.ai k.ai;have g:=j.ai.trans (k.ai.mono j.ai.size);have ah4:=j.ai.size
   have M:=hrel.ok j.ok (λR k a t=>by
    obtain⟨r,R,rfl⟩:=aU.1 k
    exact(HC).gS r R a t)
   have t:∀x∈v,lk p (F (X w)) x:=λx R=>(k.bV.aK x R).dS ah4
   obtain⟨a12,eN,rfl⟩:=aF k.bV.row;have R:=k.dc
   cases v with
   |nil=>have D:=H (q _ (oQ.done hrel (oU m)));have x:=H (show su w (U T (Z Q) V) Q p from ⟨g,l,j.ok⟩);have a:=ajE j.bV.row;have B:¬((c:Int)<Z Q):=O;clear k hrel l g M t q i j R;have R:=H (adG p T (Z Q) V a a12 eN);go_wp2_with(at_builtin;go_must (refine abw rfl _ _ _ rfl _ _ rfl rfl R ?_));go_roundg(2*(51-Z Q));exact⟨rfl,rfl,n+1,Bf,Q,oN,rfl,m,O,(λh=>by cases h),oS,x,(λh=>by cases h),λ_=>D⟩;omega
   |cons x0 ajy=>
    generalize hO:x0::ajy=v at*;have R:0<Z v:=(by rw[<-hO];simp);have rR:v.map (·.F)≠[]:=(by rw[<-hO];simp);obtain⟨g12,_,ah5,-,-,-,-,-⟩:=qB k.bV.row (k:=0) R;injection ah5 with a q2 D
    subst a D;have a:=H (aa2 k.bV.row);have D:=H (aev t);have B:=k.bV.row.1;have u:=H B
    have A:=λ(N:W8)(b:V9)(W:p.grownBy N (U T (Z Q) V).ownBlock)(f:Ow N (F (X w)) 262 10 b (Z Q+Z v) (Q.flatMap FG.cells++v.flatMap FG.cells))=>(show su w b (Q++v) N from ⟨ib g (ak.jF W) (g.size) (λb x=>(l.row.lt b (oU x)).1),l.app t (ak.refl [] _) W f,λf W=>by
     rw[fg]at W;rcases aS.1 W with W|W
     .exact(j).ok f W
     exact M f W⟩)
    have b:=H A;have x:=H l.row;have y:=H hrel;have E:=g.size;have aon:=H g;have HNE:=H rR;clear k hrel l g M t i j A B hO rR
    by_cases A:c<Z Q+Z v
    .have k:(c:Int)<(Z Q:Int)+Z v:=O;have M:=H (q _ (oQ.over y (oU A)));go_wp2_with(at_builtin;go_must (refine wpList_append_lies _ rfl _ _ _ rfl (F (X w)) 262 i0 (Va #[Y ⟨#[]⟩,U G 0 0,Vb Bf,I J 0,I J 0,Y ⟨#[]⟩,I J 0,I J 0,I J 0,U G 0 0]) 10 128 underlying250 sF gB dx cB rfl oD (U T (Z Q) V) (Z Q) _ rfl x (C g12 0 G) (Z v) eN (v.flatMap FG.cells) rfl u a D R oM O E _ rfl ?_;intro g l N f j B i));have t:=H (b N _ j f);clear f j b x;go_wp2_with fail;apply HY
     .exact(t).ai
     exact M
    have k:¬((c:Int)<(Z Q:Int)+Z v):=O;have M:=H (λr (h:oQ K S (L.map (·.R)) c s (n+1) ((Q++v).map (·.F)) r)=>q r (oQ.jP y HNE (oU A) (by rw[fg]at h;exact h)));go_wp2_with(at_builtin;go_must (refine wpList_append_lies _ rfl _ _ _ rfl (F (X w)) 262 i0 (Va #[Y ⟨#[]⟩,U G 0 0,Vb Bf,I J 0,I J 0,Y ⟨#[]⟩,I J 0,I J 0,I J 0,U G 0 0]) 10 128 underlying250 sF gB dx cB rfl oD (U T (Z Q) V) (Z Q) _ rfl x (C g12 0 G) (Z v) eN (v.flatMap FG.cells) rfl u a D R oM O E _ rfl ?_;intro g l N f j B i));have t:=H (b N _ j f);clear f j b x;have x:(0:Int)<Z v:=O;go_wp2;go_roundg(2*(51-(Q++v).length)+1);exact⟨rfl,rfl,n+1,Bt,Q++v,oN,rfl,oT,oT,(λ_=>oT),oS,t,(λ_=>M),λh=>by cases h⟩;simp;omega
def kg(l:List aP):List aR->List Nat->ec->Option ec
 | [],_,e=>P e
 |a::r,fr,e=>if a.no then kg l r fr e else match fr with
  | []=>G
  |x::q=>match l[x]? with
   |none=>G
   |some f=>match gY e a f.aH with
    |none=>G
    |some e'=>kg l r q e'
def FB(l a r b e):kg l (a::r) b e=if a.no then kg l r b e else match b with|[]=>G|x::q=>match l[x]? with|none=>G|some f=>match gY e a f.aH with|none=>G|some c=>kg l r q c:=by cases b<;>rfl
variable {i:List Nat}{a k:Nat}
def ahp(h:a<Z i):(nM i)[a]?=P (I J (i[a]:Nat)):=by unfold nM;rw[gP,dr h];rfl
def aj1{l b}(h:k<Z b)(c:b[k].no=Bt)(a e):kg l (b.drop k) a e=kg l (b.drop (k+1)) a e:=by rw[dM h,FB,aD c]
def aj0{l b}(h:k<Z b)(d:b[k].no=Bf)(c:a<Z i)(f:Z l<=i[a])(e):kg l (b.drop k) (i.drop a) e=none:=by rw[dM h,dM c,FB,aB (by rw[d];simp)];simp only;rw[od f]
def aiZ{l b}(h:k<Z b)(f:b[k].no=Bf)(d:a<Z i)(g:i[a]<Z l)(e):kg l (b.drop k) (i.drop a) e=match gY e b[k] l[i[a]].aH with|none=>G|some c=>kg l (b.drop (k+1)) (i.drop (a+1)) c:=by rw[dM h,dM d,FB,aB (by rw[f];simp)];simp only;rw[dr g]
structure qX(w:W8)(R:bg)(hv bv:V9)(E:ec)(nv tv:V9)(wr:W8):Prop where
 ai:Below (F (X w)) w wr
 box:wr.heap[F (X w)]?=P (Vc #[Y R.ay.ax,hv,Vb R.ay.no,I J R.ay.aC,I J R.ay.aO,bv] 246)
 gO:wr.heap[F (X w)+1]?=P (Vc #[U G 0 0,U G 0 0] 258)
 z7:wr.heap[F (X w)+1+1]?=P (Vc #[nv,tv] 258)
 jM:jz wr (F (X w)+1+1+1) E nv tv
variable {e:ec}{j:bg}{b c f g:V9}{d h:W8}
def qX.lt(w:qX d j b f e c g h):F (X d)+1+1<F (X h):=(aM.1 w.z7).1
def qX.zm(w:qX d j b f e c g h)(k:Below (F (X h)) h l):qX d j b f e c g l:=
 have R:=w.lt
 ⟨w.ai.trans (k.mono w.ai.size),(k.block _ O).trans w.box,(k.block _ O).trans w.gO,(k.block _ R).trans w.z7,w.jM.ai k⟩
def qX.start(w R b a):qX w R b a [] (U G 0 0) (U G 0 0) (Al (Al (Al w (Vc #[Y R.ay.ax,b,Vb R.ay.no,I J R.ay.aC,I J R.ay.aO,a] 246)) (Vc #[U G 0 0,U G 0 0] 258)) (Vc #[U G 0 0,U G 0 0] 258)):=by
 refine⟨(((aZ _ w).alloc L9 _).alloc oS _).alloc oT _,?_,?_,?_,⟨dm _ _ _ _,dm _ _ _ _,λ_=>⟨rfl,rfl⟩⟩⟩
 .rw[aW _ _ _ oT,aW _ _ _ oS];exact aG w _
 .rw[aW _ _ _ oS];have:=aG (Al w (Vc #[Y R.ay.ax,b,Vb R.ay.no,I J R.ay.aC,I J R.ay.aO,a] 246)) (Vc #[U G 0 0,U G 0 0] 258);rw[bL]at this;exact this
 have:=aG (Al (Al w (Vc #[Y R.ay.ax,b,Vb R.ay.no,I J R.ay.aC,I J R.ay.aO,a] 246)) (Vc #[U G 0 0,U G 0 0] 258)) (Vc #[U G 0 0,U G 0 0] 258);rw[bL,bL]at this;exact this
def qX.set{w R j i E e n k a c wr wc b}(h:qX w R j i E n k wr)(m:M3 wr (P e) b a c wc):qX w R j i e a c (Sc (Sc wc (C (F (X w)+1+1) 0 G) a) (C (F (X w)+1+1) 1 G) c):=by
 have d:=h.zm m.ai;have l:=h.lt;have f:(Sc wc (C (F (X w)+1+1) 0 G) a).heap[F (X w)+1+1]?=P (Vc #[a,k] 258):=by rw[j9 _ _ _ _ _ _ d.z7];rfl
 have g:=m.jM e rfl;refine⟨(d.ai.setCell (by show(F (X w))<=F (X w)+1+1;omega) _).setCell (by show(F (X w))<=F (X w)+1+1;omega) _,?_,?_,by rw[j9 _ _ _ _ _ _ f];rfl,?_⟩
 .rw[cx _ _ _ _ (by show(F (X w))≠(F (X w))+1+1;omega),cx _ _ _ _ (by show(F (X w))≠(F (X w))+1+1;omega)];exact d.box
 .rw[cx _ _ _ _ (by show(F (X w))+1≠(F (X w))+1+1;omega),cx _ _ _ _ (by show(F (X w))+1≠(F (X w))+1+1;omega)];exact d.gO
 exact⟨aX (fh (fh g.ns (oU l) _) (oU l) _) O,aX (fh (fh g.ts (oU l) _) (oU l) _) O,g.nil⟩
def xg(n:Ce d (C a 0 G)=P f)(e:Ce d (C a 1 G)=P g)(b c):Ce (Sc (Sc d (C a 0 G) b) (C a 1 G) c) (C a 0 G)=P b/\Ce (Sc (Sc d (C a 0 G) b) (C a 1 G) c) (C a 1 G)=P c:=
 ⟨by rw[iA O];exact qz n,qz (by rw[iA O];exact e)⟩
def qX.al8(w:qX d j f c e g b h):jz (Sc (Sc h (C (F (X d)+1) 0 G) g) (C (F (X d)+1) 1 G) b) (F (X d)) e g b:=
 ⟨aX (fh (fh w.jM.ns (by show(F (X d))+1<_;omega) _) (by show(F (X d))+1<_;omega) _) O,aX (fh (fh w.jM.ts (by show(F (X d))+1<_;omega) _) (by show(F (X d))+1<_;omega) _) O,w.jM.nil⟩
inductive zT (w w':W8):Option ec->Ending->Prop
 |yes {E:ec} {an aC:O8} {cn ct:Nat}:jz w' (F (X w)) E (U an (Z E) cn) (U aC (Z E) ct)->zT w w' (P E) (Vr (Vt #[Va #[U an (Z E) cn,U aC (Z E) ct],Vb Bt]))
 |no {an aC:O8} {n cn m ct:Nat}:zT w w' G (Vr (Vt #[Va #[U an n cn,U aC m ct],Vb Bf]))
def aj2(w base R hv d bv f al cl)(i:vs w base R hv d bv f (U al (Z f) cl))(c af cf)(k:Ow w base 3 1 (U af (Z c) cf) (Z c) (nM c))(n:Z c=gD R.body):Calls prog 229 #[oJ R.ay hv bv,U af (Z c) cf,U al (Z f) cl] w λe a=>zT w a (kg (f.map (·.F)) R.body c []) e/\Below (F (X w)) w a:=by
 have HC:=H i;have tJ:=i.dc;have ow:=i.body;obtain⟨ab,cb,rfl⟩:=aF i.cH.bo;obtain⟨ah,ch,rfl⟩:=aF i.cH.hd;have s:=H (qX.start w R (U ah (Z R.ay.aq) ch) (U ab (Z d) cb));have ue:=H k;have te:=H n;clear i k n;unfold oJ;go_in;go_wp2_with fail;generalize(Al (Al (Al w (Vc #[Y R.ay.ax,U ah (Z R.ay.aq) ch,Vb R.ay.no,I J R.ay.aC,I J R.ay.aO,U ab (Z d) cb] 246)) (Vc #[U G 0 0,U G 0 0] 258)) (Vc #[U G 0 0,U G 0 0] 258))=w0 at*;have i:=HC.cH.eq;have n:Z R.body=Z d:=by rw[i,bF]
 have uc:=H i;have KG:=H n;clear i n
 go_loopg [9,10] (Z d) (λg n i wr=>∃(k m:Nat)(E:ec)(nv tv:V9),k<=Z d/\g=Z d-k/\m=gD (R.body.take k)/\n=I J m/\i=I J k/\qX w R (U ah (Z R.ay.aq) ch) (U ab (Z d) cb) E nv tv wr/\(Z E)<=4*k/\kg (f.map (·.F)) R.body c []=kg (f.map (·.F)) (R.body.drop k) (c.drop m) E)
 exact⟨0,0,[],_,_,aI _,rfl,rfl,rfl,rfl,s,oS,rfl⟩
 case round=>
  clear s;obtain⟨k,m,E,nv,tv,_,_,g,rfl,rfl,s,hEl,y⟩:=hrel;obtain⟨B,D,n,K,rfl,rfl⟩:=s.jM.shape;have mM:=s.lt;obtain⟨x5,-⟩:=aj s.box 5;obtain⟨u0,v0⟩:=aj s.z7 0;obtain⟨u1,v1⟩:=aj s.z7 1;obtain⟨r0,q0⟩:=aj s.gO 0;obtain⟨r1,q1⟩:=aj s.gO 1;simp only[bt,aT,bx]at x5 u0 u1 r0 r1;have V:=H s;have i:=H y;have HM:=H g;clear y g
  by_cases gA:k<Z d
  .have y:k<Z R.body:=(by rw[ag KG];exact gA);have yR:=aQ HC.cH.bo s.ai (λg e=>(HC.cH.bo.lt g e).2);obtain⟨q,_,zb,-,N,_,_,y0,y1,y2,y3,y4⟩:=qx yR k gA;injection zb with o i2 x
   subst o x;have u:R.body[k]=d[k].1:=(by simp only[ag uc,nB]);have z:gD (R.body.take (k+1))=m+if d[k].1.no then 0 else 1:=(by rw[ZI y,<-ag HM,u]);have kf:(k:Int)<Z d:=O
   cases l:d[k].1.no with
   |true=>rw[l]at y2;have HN:=H (show kg (f.map (·.F)) R.body c []=kg (f.map (·.F)) (R.body.drop (k+1)) (c.drop m) E by rw[ag i,aj1 y (by rw[u];exact l)]);have qh:=H (show m=gD (R.body.take (k+1)) by rw[z,l];rfl);clear l z u yR s i HM;go_wp2;go_roundg(Z d-(k+1));exact⟨k+1,m,E,_,_,O,rfl,qh,rfl,oN,V,O,HN⟩;omega
   |false=>
    rw[l]at y2;have IQ:m<Z c:=by
     have h1:gD (R.body.take (k+1))<=gD R.body:=by unfold gD;exact((List.take_sublist _ _).filter _).length_le
     rw[ag te];rw[z,l]at h1;simp at h1;omega
    have yZ:=aQ ue s.ai (λg e=>(ue.lt g e).2);obtain⟨gf,_,E5,-,IS,_,r⟩:=rZ yZ O;injection E5 with o i2 x
    subst o x;have NU:=(yZ.lt gf rfl).2;have xc:Ce wr (C gf m G)=P (I J (c[m]:Nat)):=(by rw[r m IQ,ahp IQ]);have hmi:(m:Int)<Z c:=O;have qG:m<3:=(by have:=ag te;have:=PS R.body;have:=ag KG;omega);have S:m+1=gD (R.body.take (k+1)):=(by rw[z,l];rfl);have qh:=H S
    by_cases T:c[m]<Z f
    .have b:=aQ HC.bV.row s.ai (λg e=>(HC.bV.row.lt g e).2);obtain⟨v,_,E6,-,Q,_,_,A⟩:=qB b T;injection E6 with o i2 x
     subst o x;have z0:=A 0 oD;have z1:=A 1 oD;have z2:=A 2 oD;have z3:=A 3 oD;have z4:=A 4 oD;simp only[FG.cells,bx,aT,iy]at z0 z1 z2 z3 z4;have o:=HC.cH.bl _ (aN gA);obtain⟨aa,ca,e3⟩:=aF o;have x:=(HC.bV.aK _ (aN T)).t;obtain⟨ba,M,e4⟩:=aF x;have h4:d[k].1.aq.length<=4:=HC.aq _ (by rw[ag uc];exact fW (aN gA));rw[e3]at y1;rw[e4]at z1;have j:=s.ai.size;have p:∀W,Below (F (X wr)) wr W->Calls prog 139 #[Va #[U B (Z E) D,U n (Z E) K],Va #[Y d[k].1.ax,U aa d[k].1.aq.length ca,Vb Bf,I J d[k].1.aC,I J d[k].1.aO],Va #[Y f[c[m]].F.aH.ax,U ba f[c[m]].F.aH.aq.length M,Vb f[c[m]].F.aH.no,I J f[c[m]].F.aH.aC,I J f[c[m]].F.aH.aO]] W (DY W (U B (Z E) D) (U n (Z E) K) (gY E d[k].1 f[c[m]].F.aH)):=λW h=>by
      have t:=s.ai.trans (h.mono j);have q1:=s.jM.ai h;rw[e3]at o;rw[e4]at x;rw[<-l];exact Qk W 0 E d[k].1 f[c[m]].F.aH B n aa ba D K ca M ⟨aX q1.ns (aI _),aX q1.ts (aI _),q1.nil⟩ (aX (aQ o t (λg e=>(o.lt g e).2)) (aI _)) (aX (aQ x t (λg e=>(x.lt g e).2)) (aI _)) O
     have h:=aiZ (l:=f.map (·.F)) (b:=R.body) y (by rw[u];exact l) IQ (oU T) E;rw[u,nB]at h;have L:=H (i.trans h);have g:=H p;have Kz:=H h4;have XC:(c[m]:Int)<Z f:=O;clear s yR yZ A r b o x p z S h i HM e3 e4 j l u h4;generalize d[k].1=A at*;generalize f[c[m]].F.aH=o at*;generalize c[m]=x at*
     have HK:Hid (∀W a:W8,Below (F (X wr)) wr W->Below (F (X W)) W a->Ce a (C (F (X w)+1+1) 0 G)=P (U B (Z E) D)/\Ce a (C (F (X w)+1+1) 1 G)=P (U n (Z E) K)/\Ce a (C (F (X w)) 5 G)=P (U (P (C q 0 G)) (Z d) cb)/\Ce a (C q (k*5) G)=P (Y A.ax)/\Ce a (C q (k*5+1) G)=P (U aa (Z A.aq) ca)/\Ce a (C q (k*5+2) G)=P (Vb Bf)/\Ce a (C q (k*5+3) G)=P (I J A.aC)/\Ce a (C q (k*5+4) G)=P (I J A.aO)/\Ce a (C gf m G)=P (I J (x:Nat))/\Ce a (C v (x*10) G)=P (Y o.ax)/\Ce a (C v (x*10+1) G)=P (U ba (Z o.aq) M)/\Ce a (C v (x*10+2) G)=P (Vb o.no)/\Ce a (C v (x*10+3) G)=P (I J o.aC)/\Ce a (C v (x*10+4) G)=P (I J o.aO)):=H (λW a h1 p=>by
      have t:=h1.trans (p.mono h1.size)
      exact⟨(t.cell (oU mM)).trans u0,(t.cell (oU mM)).trans u1,(t.cell (by show(F (X w))<_;omega)).trans x5,(t.cell (oU N)).trans y0,(t.cell (oU N)).trans y1,(t.cell (oU N)).trans y2,(t.cell (oU N)).trans y3,(t.cell (oU N)).trans y4,(t.cell (oU NU)).trans xc,(t.cell (oU Q)).trans z0,(t.cell (oU Q)).trans z1,(t.cell (oU Q)).trans z2,(t.cell (oU Q)).trans z3,(t.cell (oU Q)).trans z4⟩)
     have d5:¬(F (X w))+1+1=F (X wr):=O;have db:¬q=F (X wr):=O;have dl:¬v=F (X wr):=O;have df:¬gf=F (X wr):=O;have dw:¬(F (X w))=F (X wr):=O;go_upto_region 9 with fail
     go_cut [11,12] from 14 to 58 (λp W wc=>∃b nR jG,p=Vp (P (C b 0 G))/\W=Vb (gY E A o).isSome/\M3 wr (gY E A o) b nR jG wc)
     case first=>
      clear L V
      cases W:gY E A o with
      |none=>
       rw[W]at g
       go_region_held3 (λa=>Ce a (C (F (X w)+1+1) 0 G)=P (U B (Z E) D)/\Ce a (C (F (X w)+1+1) 1 G)=P (U n (Z E) K)/\Ce a (C (F (X w)) 5 G)=P (U (P (C q 0 G)) (Z d) cb)/\Ce a (C q (k*5) G)=P (Y A.ax)/\Ce a (C q (k*5+1) G)=P (U aa (Z A.aq) ca)/\Ce a (C q (k*5+2) G)=P (Vb Bf)/\Ce a (C q (k*5+3) G)=P (I J A.aC)/\Ce a (C q (k*5+4) G)=P (I J A.aO)/\Ce a (C gf m G)=P (I J (x:Nat))/\Ce a (C v (x*10) G)=P (Y o.ax)/\Ce a (C v (x*10+1) G)=P (U ba (Z o.aq) M)/\Ce a (C v (x*10+2) G)=P (Vb o.no)/\Ce a (C v (x*10+3) G)=P (I J o.aC)/\Ce a (C v (x*10+4) G)=P (I J o.aO)) (first|go_keep|(refine⟨?_,?_,?_,?_,?_,?_,?_,?_,?_,?_,?_,?_,?_,?_⟩<;>(refine(C6 ?_).trans ?_<;>assumption))) ((go_at_call 139;refine(g _ oB).mono ?_;rintro e w2⟨p,WO,-⟩;obtain rfl:=WO rfl;obtain⟨m0,m1,m2,m3,m4,m5,m6,m7,m8,m9,m10,m11,m12,m13⟩:=ag HK _ _ oB p;have yS:=λ(j:Nat) h=>p.cell (p:=(C (F (X wr)) j G)) h;have yU:=λ(j:Nat) h=>p.frozen (p:=(C (F (X wr)) j G)) h;clear WO))
       all_goals
        go_wp2;go_meet
        case rel=>
         rw[W]
         first|exact⟨_,_,_,rfl,rfl,M3.qw (W:=wr.drew) B9.drew p (λ_ h=>by cases h)⟩|exact⟨_,_,_,rfl,rfl,M3.ahead (W:=(Al wr (Vc #[U G 0 0,U G 0 0] 258)).drew) oA.drew L9 (aG wr _) p (λ_ h=>by cases h)⟩
      |some E'=>
       rw[W]at g
       go_region_held3 (λa=>Ce a (C (F (X w)+1+1) 0 G)=P (U B (Z E) D)/\Ce a (C (F (X w)+1+1) 1 G)=P (U n (Z E) K)/\Ce a (C (F (X w)) 5 G)=P (U (P (C q 0 G)) (Z d) cb)/\Ce a (C q (k*5) G)=P (Y A.ax)/\Ce a (C q (k*5+1) G)=P (U aa (Z A.aq) ca)/\Ce a (C q (k*5+2) G)=P (Vb Bf)/\Ce a (C q (k*5+3) G)=P (I J A.aC)/\Ce a (C q (k*5+4) G)=P (I J A.aO)/\Ce a (C gf m G)=P (I J (x:Nat))/\Ce a (C v (x*10) G)=P (Y o.ax)/\Ce a (C v (x*10+1) G)=P (U ba (Z o.aq) M)/\Ce a (C v (x*10+2) G)=P (Vb o.no)/\Ce a (C v (x*10+3) G)=P (I J o.aC)/\Ce a (C v (x*10+4) G)=P (I J o.aO)) (first|go_keep|(refine⟨?_,?_,?_,?_,?_,?_,?_,?_,?_,?_,?_,?_,?_,?_⟩<;>(refine(C6 ?_).trans ?_<;>assumption))) ((go_at_call 139;refine(g _ oB).mono ?_;rintro e w2⟨p,-,xv⟩;obtain⟨nR,jG,rfl,a⟩:=xv E' rfl;obtain⟨TF,Uh,yC,Uq,rfl,rfl⟩:=a.shape;obtain⟨m0,m1,m2,m3,m4,m5,m6,m7,m8,m9,m10,m11,m12,m13⟩:=ag HK _ _ oB p;have yS:=λ(j:Nat) h=>p.cell (p:=(C (F (X wr)) j G)) h;have yU:=λ(j:Nat) h=>p.frozen (p:=(C (F (X wr)) j G)) h;have j:=H a;clear xv a))
       all_goals
        go_wp2;go_meet
        case rel=>
         rw[W]
         first|exact⟨_,_,_,rfl,rfl,M3.qw (W:=wr.drew) B9.drew p (λ_ h=>by cases h;exact j)⟩|exact⟨_,_,_,rfl,rfl,M3.ahead (W:=(Al wr (Vc #[U G 0 0,U G 0 0] 258)).drew) oA.drew L9 (aG wr _) p (λ_ h=>by cases h;exact j)⟩
     case rest=>
      generalize wc=wA at*;obtain⟨b,nR,jG,rfl,rfl,h⟩:=hcut;have j:=V.zm h.ai;have hlA:=j.lt;obtain⟨u0,v0⟩:=aj j.z7 0;obtain⟨u1,v1⟩:=aj j.z7 1;obtain⟨r0,q0⟩:=aj j.gO 0;obtain⟨r1,q1⟩:=aj j.gO 1;simp only[bt,aT,bx]at u0 u1 r0 r1
      cases W:gY E A o with
      |none=>have HN:=H (show kg (f.map (·.F)) R.body c []=G by rw[ag L,W]);have p:=H j;clear L g HK h j W V x5 y0 y1 y2 y3 y4 z0 z1 z2 z3 z4 xc qh Kz;go_wp2_with fail;obtain⟨a,p1⟩:=xg r0 r1 (U B (Z E) D) (U n (Z E) K);refine bN (v:=Vt #[Va #[U B (Z E) D,U n (Z E) K],Vb Bf]) (by simp[results,results229,go_sem,a,p1]) rfl ?_;rw[ag HN];exact⟨.no,((p.ai).setCell (by show(F (X w))<=F (X w)+1;omega) _).setCell (by show(F (X w))<=F (X w)+1;omega) _⟩
      |some E'=>rw[W]at h;obtain⟨TF,Uh,yC,Uq,rfl,rfl⟩:=(h.jM E' rfl).shape;obtain⟨g0,-⟩:=aj h.blk 0;obtain⟨g1,-⟩:=aj h.blk 1;simp only[bt,aT,bx]at g0 g1;have p:Z E'<=4*(k+1):=(by have:=O2 W;have:=ag Kz;omega);have HN:=H (show kg (f.map (·.F)) R.body c []=kg (f.map (·.F)) (R.body.drop (k+1)) (c.drop (m+1)) E' by rw[ag L,W]);have HS:=H (V.set h);clear L g HK h j W V x5 y0 y1 y2 y3 y4 z0 z1 z2 z3 z4 xc Kz hEl;go_wp2;go_roundg(Z d-(k+1));exact⟨k+1,m+1,E',_,_,O,rfl,qh,oN,oN,HS,p,HN⟩;omega
    have IS:=aj0 (l:=f.map (·.F)) (b:=R.body) y (by rw[u];exact l) IQ (oU T) E;have HN:=H (i.trans IS);have XC:¬(c[m]:Int)<Z f:=O;clear IS l z u yR s i HM yZ r T S;generalize c[m]=x at*;go_wp2_with fail;obtain⟨a,p1⟩:=xg r0 r1 (U B (Z E) D) (U n (Z E) K);refine bN (v:=Vt #[Va #[U B (Z E) D,U n (Z E) K],Vb Bf]) (by simp[results,results229,go_sem,a,p1]) rfl ?_;rw[ag HN];exact⟨.no,((V.ai).setCell (by show(F (X w))<=F (X w)+1;omega) _).setCell (by show(F (X w))<=F (X w)+1;omega) _⟩
  have q:k=Z d:=O
  subst q;have q:kg (f.map (·.F)) R.body c []=P E:=by rw[ag i,GL (by rw[ag KG];exact bD _),kg]
  have x:=H q;clear q s i HM;go_wp2_with fail;obtain⟨a,p1⟩:=xg r0 r1 (U B (Z E) D) (U n (Z E) K);refine bN (v:=Vt #[Va #[U B (Z E) D,U n (Z E) K],Vb Bt]) (by simp[results,results229,go_sem,a,p1]) rfl ?_;rw[ag x];exact⟨.yes V.al8,((V.ai).setCell (by show(F (X w))<=F (X w)+1;omega) _).setCell (by show(F (X w))<=F (X w)+1;omega) _⟩
end
section
open Go.RowKit Go.Maps
structure ND where
 r:Nat
 fr:List Nat
 v:V9
def gw(x:ND):Nat×List Nat:=(x.r,x.fr)
def sO(x:ND):V8:=[I J (x.r:Nat),x.v]
def Jk(x):(sO x).length=2:=rfl
structure oh(w:W8)(base:Nat)(nv:V9)(ic:List ND):Prop where
 row:Ow w base 150 2 nv (Z ic) (ic.flatMap sO)
 aK:∀x∈ic,Ow w base 3 1 x.v (Z x.fr) (jk x.fr)
variable {b:List ND}{a g:Nat}{c:V9}{d e:W8}
def oh.ai(h:oh d a c b)(k:Below (F (X d)) d e):oh e a c b:=
 ⟨aQ h.row k (λg w=>(h.row.lt g w).2),λx f=>aQ (h.aK x f) k (λg w=>((h.aK x f).lt g w).2)⟩
def oh.dS(h:oh d g c b)(w:a<=g):oh d a c b:=⟨aX h.row w,λx f=>aX (h.aK x f) w⟩
def lT(B:Nat->Bool):List (Nat×List Nat)->Nat->(Nat->Nat)->List (Nat×List Nat)->List (Nat×List Nat)
 | [],_,_,out=>out
 |x::r,i,pl,out=>if B i then lT B r (i+1) (gz pl i (Z out)) (out++[(x.1,x.2.map (gz pl i (Z out)))]) else lT B r (i+1) pl out
def al6{B l k pl out}(h:k<Z l):lT B (l.drop k) k pl out=if B k then lT B (l.drop (k+1)) (k+1) (gz pl k (Z out)) (out++[(l[k].1,l[k].2.map (gz pl k (Z out)))]) else lT B (l.drop (k+1)) (k+1) pl out:=by rw[dM h];rfl
structure uo(w:W8)(n:Nat)(pl:Nat->Nat)(out:List ND)(nv:V9)(wr:W8):Prop where
 xF:gd wr (F (X w)) 3 n (λi=>I J (pl i:Nat))
 ic:oh wr (F (X w)+1) nv out
 k:Below (F (X w)) w wr
variable {f:Nat->Nat}
def uo.ai{wr}(h:uo e a f b c wr)(k:Below (F (X wr)) wr d):uo e a f b c d:=
 ⟨h.xF.ai k,h.ic.ai k,h.k.trans (k.mono h.k.size)⟩
def uo.put{w n d b c wr}(h:uo w n d b c wr)(i v):uo w n (gz d i v) b c (Sc wr (C (F (X w)) i G) (I J (v:Nat))):=by
 have a:∀g,g≠(F (X w))->(Sc wr (C (F (X w)) i G) (I J (v:Nat))).heap[g]?=wr.heap[g]?:=λg j=>cx _ _ _ _ (oU j)
 refine⟨(h.xF.set i (I J (v:Nat))).eq λj _=>?_,⟨gC h.ic.row (λg e=>a g (oF ((h.ic.row.lt g e).1))),λx j=>gC (h.ic.aK x j) (λg e=>a g (oF (((h.ic.aK x j).lt g e).1)))⟩,h.k.setCell L9 _⟩;unfold gz
 split<;>rfl
def uo.add{k W w5 x}(h:uo d a f b c e)(r:Ow e (F (X d)+1) 3 1 x.v (Z x.fr) (jk x.fr))(w:Below (F (X e)) e W)(q:W.grownBy w5 c.ownBlock)(n:Ow w5 (F (X d)+1) 150 2 k (Z b+1) (b.flatMap sO++sO x)):uo d a f (b++[x]) k w5:=by
 have m:ak [] e W:=⟨w.os,w.tape,w.output,w.size,λi l _=>w.block i l⟩;have l:ak c.ownBlock.toList e w5:=(m.mono oS).trans (ak.jF q);have o:∀p∈c.ownBlock.toList,er e 3 p:=gl h.ic.row oD;have j:∀p∈c.ownBlock.toList,F (X d)+1<=p:=λp i=>(h.ic.row.lt p (oU i)).1
 refine⟨h.xF.block (l.block _ h.xF.lt (λg=>by have:=j _ g;omega)),⟨?_,λy g=>?_⟩,ib h.k l h.k.size (λp i=>by have:=j p i;omega)⟩
 .rw[br,oc];simpa using n
 rcases aS.1 g with g|g
 .exact j3 (h.ic.aK y g) l (λp i=>.inr (o p i))
 rw[bu.1 g];exact j3 r l (λp i=>.inr (o p i))
structure Tt(wB:W8)(m:Nat)(fv:Nat->Nat)(j:Nat)(wi:W8):Prop where
 k:Below (F (X wB)) wB wi
 row:gd wi (F (X wB)) 3 m (λq=>I J ((if q<j then fv q else 0:Nat)))
def acD(w:W8)(ns:List (Nat×List Nat))(e:Ending)(w':W8):Prop:=
 ∃(out:List ND)(a:O8)(c:Nat),e=Vr (U a (Z out) c)/\oh w' (F (X w)) (U a (Z out) c) out/\out.map gw=ns/\Below (F (X w)) w w'
def OE:(prog.info? 150).map (λi=>(i.zero,i.size,i.bytes))=P (P (Va #[I J 0,U G 0 0]),2,32):=oK
def Y3(a x j u)(h:(sO x)[j]?=P u):Ce (Al a (Vc #[I J (x.r:Nat),x.v] 150)) (((C (F (X a)) 0 G):Addr).add j)=P u:=by
 have e:((C (F (X a)) 0 G):Addr).add j=(C (F (X a)) j G):=by unfold Addr.add;split<;>simp_all
 rw[e,World.cell?_alloc_at _ _ _ _ rfl];simpa[sO]using h
def Y4{b}(p){c}:∀u∈sO ⟨a,b,U p g c⟩,u.oneCell'=true:=by intro u r;simp[sO]at r;rcases r with rfl|rfl<;>rfl
def al5(w R W an cn b B)(h:oh w R (U an (Z b) cn) b)(q:gd w W 4 (Z b) (λi=>Vb (B i)))(hl:Z b<=50)(n:∀x∈b,Z x.fr<=3/\∀y∈x.fr,y<Z b):Calls prog 70 #[U an (Z b) cn,U (P (C W 0 G)) (Z b) (Z b)] w (acD w (lT B (b.map gw) 0 (λ_=>0) [])):=by
 obtain⟨i0,hi,gB,dx,cB⟩:=info_parts OE;have a:=H h;have HB:=H q;have HF:=H n;clear h q n;have q:=λn h=>Fw n h
 have h:=Fw (Z b) O;go_in;go_upto_region 3 with fail;generalize n:World.alloc w _=w0;have k:Below (F (X w)) w w0:=by rw[<-n];exact(aZ (F (X w)) w).alloc L9 _
 have E:gd w0 (F (X w)) 3 (Z b) (λ_=>I J 0):=by rw[<-n];exact gd.start w _ _ _
 clear n h;have n:=H (show uo w (Z b) (λ_=>0) [] (U G 0 0) w0 from ⟨E,⟨dm _ _ _ _,oS⟩,k⟩);clear k E;go_upto_region 4 with fail
 go_loopg [5,17] (Z b) (λo z i wr=>∃(k:Nat)(E:Nat->Nat)(h:List ND),k<=Z b/\o=Z b-k/\i=I J k/\(Z h)<=k/\uo w (Z b) E h z wr/\lT B ((b.map gw).drop k) k E (h.map gw)=lT B (b.map gw) 0 (λ_=>0) [])
 exact⟨0,_,[],aI _,rfl,rfl,bD _,n,rfl⟩
 case round=>
  clear n;obtain⟨k,E,h,_,_,rfl,_,n,o⟩:=hrel;obtain⟨ao,co,rfl⟩:=aF n.ic.row;have z:=H o;clear o
  by_cases o:k<Z b
  .obtain⟨x,l⟩:∃x,x=b[k]:=⟨_,rfl⟩;have d:x∈b:=(by rw[l];exact aN o);obtain⟨g,_,hv,_,V,_,_,K⟩:=gu Jk a.row k o;injection hv with h1 h2 v
   subst h1 v;have v:=a.aK x d;obtain⟨s,t,c⟩:=aF v;have u:Ce wr (C g (k*2) G)=P (I J (x.r:Nat)):=(by rw[l];exact(n.k.cell (p:=(C g (k*2) G)) V).trans (K 0 O));have e:Ce wr (C g (k*2+1) G)=P (U s (Z x.fr) t):=(by rw[<-c,l];exact(n.k.cell (p:=(C g (k*2+1) G)) V).trans (K 1 O));have kf:(k:Int)<Z b:=O;have M:=HB.cell o;have T:=HB.lt;have j:Ce (Al wr (Vc #[I J (x.r:Nat),U s (Z x.fr) t] 150)) (C W k G)=P (Vb (B k)):=by have f:Below (F (X w)) w (Al wr (Vc #[I J (x.r:Nat),U s (Z x.fr) t] 150)):=n.k.alloc n.k.size _;exact(f.cell (p:=(C W k G)) T).trans M
   have f:=H n;have HX:=H l;have N:=H (al6 (B:=B) (l:=b.map gw) (k:=k) (pl:=E) (out:=h.map gw) (oU o));obtain⟨_,m⟩:=HF x d;have Q:=H v;have HXV:=H c;have te:=H m;clear K n l d h2 v c m M
   cases c:B k with
   |false=>
    rw[c]at j;have v:=H c;clear c;go_wp2;go_roundg(Z b-(k+1))
    case measure=>omega
    case rel=>have n:=ag f;refine⟨k+1,E,h,O,rfl,oN,O,n.ai oA,?_⟩;rw[<-ag z,ag N,ag v];rfl
   |true=>
    rw[c]at j;have v:=H c;clear c;have n:=ag f;have d:=n.ai ((aZ (F (X wr)) wr).alloc L9 (Vc #[I J (x.r:Nat),U s (Z x.fr) t] 150));have L:=d.xF.cell o;have S:=d.xF.fz k;have hpw:=n.xF.lt;have c:=(n.put k (Z h)).ai (B9.alloc L9 (Vc #[I J (x.r:Nat),U s (Z x.fr) t] 150));have l:=H c;have K:(Al (Sc wr (C (F (X w)) k G) (I J (Z h:Nat))) (Vc #[I J (x.r:Nat),U s (Z x.fr) t] 150)).heap[F (X wr)]?=P (Vc #[I J (x.r:Nat),U s (Z x.fr) t] 150):=by have:=aG (Sc wr (C (F (X w)) k G) (I J (Z h:Nat))) (Vc #[I J (x.r:Nat),U s (Z x.fr) t] 150);rw[Me]at this;exact this
    have M:=H K;have A:=q (Z x.fr) O;clear n d c K q;go_upto_region 9 with fail;generalize c:World.alloc (World.setCell wr _ _) (Vc #[I J (x.r:Nat),U s (Z x.fr) t] 150)=d at*;have r:F (X d)=F (X wr)+1:=(by rw[<-c];simp);clear c j L S A u e;generalize c:World.alloc d _=wC;have u:Below (F (X d)) d wC:=(by rw[<-c];exact(aZ (F (X d)) d).alloc L9 _);have e:gd wC (F (X d)) 3 (Z x.fr) (λ_=>I J 0):=(by rw[<-c];exact gd.start d _ _ _);clear c;obtain⟨c,j⟩:∃c,c=gz E k (Z h):=⟨_,rfl⟩;obtain⟨A,K⟩:∃A:Nat->Nat,A=λq=>c (x.fr[q]?.getD 0):=⟨_,rfl⟩
    have L:=H K;rw[<-j]at l;have Dv:=H j;have H1:=H (show Tt d (Z x.fr) A 0 wC from ⟨u,e.eq (λi hi=>oS)⟩);have i:=(aj ((u.block _ O).trans M) 1).1;simp only[bt,aT,bx]at i;clear u e j K;rw[<-r];have wJ:=H r;clear r;generalize Xz:F (X wr)=xb at*;go_upto_region 10 with fail
    go_loopg [39] (Z x.fr) (λK r e=>∃j:Nat,j<=Z x.fr/\K=Z x.fr-j/\r=I J j/\Tt d (Z x.fr) A j e)
    exact⟨0,aI _,rfl,rfl,H1⟩
    case round=>
     clear H1 i;obtain⟨j,_,_,rfl,i⟩:=hrel;have K:=l.ai i.k
     by_cases u:j<Z x.fr
     .have r:=aQ Q K.k (λg e=>(Q.lt g e).2);rw[ag HXV]at r;obtain⟨_,rfl,_,_,_,_⟩:=FC r j u;have hy:x.fr[j]<Z b:=te _ (aN u);have hpy:=K.xF.cell hy;have hrc:=i.row.cell u;have yZ:=i.row.fz j;have Cl:(j:Int)<Z x.fr:=O;have hyi:(x.fr[j]:Int)<Z b:=O;have S:=H i;have D:=H (show A j=c x.fr[j] by rw[ag L];simp[u]);clear i K r;generalize x.fr[j]=y at*;go_wp2;go_roundg(Z x.fr-(j+1))
      case measure=>omega
      case rel=>
       have i:=ag S;refine⟨j+1,O,rfl,oN,i.k.setCell L9 _,(i.row.set j _).eq λq p=>?_⟩
       by_cases e:q=j
       .subst e;simp[ag D]
       have r:(q<j+1)=(q<j):=(by apply propext;omega);simp only[aB e,r]
     have r:j=Z x.fr:=O;subst r;have r:gd wr (F (X d)) 3 (Z x.fr) (λq=>I J (A q:Nat)):=i.row.eq (λq p=>by rw[aD p]);have S:=(i.k.block xb (oF (ag wJ))).trans M;have b0:=(aj S 0).1;simp only[bt,aT]at b0;have m:((List.range (Z x.fr)).map A)=x.fr.map c:=by
      rw[ag L];apply GM
      .simp
      intro q h1 h2;simp at h1;simp[h1]
     have Xr:=l.xF.lt;have e:=r.jk oM (base:=F (X w)+1) Xr;rw[m]at e;have p:Ow wr (F (X w)+1) 3 1 (U (P (C (F (X d)) 0 G)) (Z x.fr) (Z x.fr)) (x.fr.map c).length (jk (x.fr.map c)):=(by rw[bF];exact e);have hwz:=i.k.size;have D:=K.ic.row.alloc (Vc #[I J (x.r:Nat),U (P (C (F (X d)) 0 G)) (Z x.fr) (Z x.fr)] 150);have Gx:=H K;have HOW:=H p;have WX:Z h<=50:=O;clear K i r S m e p;go_wp2_with(at_builtin;refine ka _ rfl _ _ 91 rfl (F (X w)+1) 150 i0 _ 2 32 underlying91 hi gB dx cB rfl oD _ _ _ rfl D (C (F (X wr)) 0 G) 1 1 (sO ⟨x.r,x.fr.map c,U (P (C (F (X d)) 0 G)) (Z x.fr) (Z x.fr)⟩) rfl rfl (Y3 wr ⟨x.r,x.fr.map c,U (P (C (F (X d)) 0 G)) (Z x.fr) (Z x.fr)⟩) (Y4 _) oM O oT ?_;intro S r i p e;clear e;obtain⟨_,_,rfl⟩:=aF i;have m:=H i;have e:=H p;clear i p);go_roundg(Z b-(k+1))
     case measure=>omega
     case rel=>refine⟨k+1,c,h++[⟨x.r,x.fr.map c,U (P (C (F (X d)) 0 G)) (Z x.fr) (Z x.fr)⟩],O,rfl,oN,by rw[br];simp;omega,Gx.add (x:=⟨x.r,x.fr.map c,U (P (C (F (X d)) 0 G)) (Z x.fr) (Z x.fr)⟩) HOW oA e m,?_⟩;rw[<-ag z,ag N,ag v,aD rfl,fg,bF,<-ag Dv];simp only[nB,<-ag HX];rfl
  have c:k=Z b:=O
  subst c;have c:=H (show h.map gw=lT B (b.map gw) 0 (λ_=>0) [] by rw[<-ag z,gE oS];rfl);have f:=H n;clear n;go_wp2;go_ret;exact⟨h,ao,co,rfl,f.ic.dS O,c,f.k⟩
variable {c0 c2 c3 c4 c5 c6 c7 c8 ed eM dv dy eh dn cJ cF bX bY bZ b7 b8 cc cd cg ck cm cy cz cC cD cE cK cL cM cQ cR cS cT cU cV cW cX cY cZ da cN cO de dh cG dz dA dB dC dD dE dF dG dH dO dP dQ dR ei ev ew ey ez eP eQ eR eS eT eU eV eA eB dW dX dY eC eD eE eF eG eH eI eJ eW eX eY eZ e8 e9 fa fi ee dN fo fp fq ft fu fM fN fO fP fw fx fy fC fD fE fF fG fH fj fk fl fI fJ fK fL eO dV gJ gK gL gM gN:V9}
noncomputable def Zd(k:Nat):Code:=((f191.body.map sM).getD []).getD k .skip
def aj4(w g o c d)(k:ky w (P (C g o G)) c d)(i M)(hi:i+1+M<=Z d)(hM:M<=3){Q} (v:∀n p r u64 t y z a u x s m l f h b e j q,Ow p (F (X w)) 3 1 n M (nM ((d.drop (i+1)).take M))->Below (F (X w)) w p->Q (.exit 2) ⟨List.toArray (c0::U (P (C g o G)) (Z d) c::c2::c3::c4::c5::c6::c7::c8::I J i::ed::eM::I J M::n::r::dv::dy::eh::dn::cJ::cF::bX::bY::bZ::b7::b8::cc::cd::cg::ck::cm::cy::cz::cC::cD::cE::cK::cL::cM::cQ::cR::cS::cT::cU::cV::cW::cX::cY::cZ::da::cN::cO::de::dh::cG::dz::dA::dB::dC::dD::dE::dF::dG::dH::u64::t::y::z::a::u::x::s::m::l::f::h::b::e::j::q::eA::eB::dW::dX::dY::eC::eD::eE::eF::eG::eH::eI::eJ::eW::eX::eY::eZ::e8::e9::fa::fi::ee::dN::fo::fp::fq::ft::fu::fM::fN::fO::fP::fw::fx::fy::fC::fD::fE::fF::fG::fH::fj::fk::fl::fI::fJ::fK::fL::eO::dV::gJ::gK::gL::gM::gN::[]),[]⟩ p):Code.wp prog (Code.loop (Zd 1)) Q ⟨List.toArray (c0::U (P (C g o G)) (Z d) c::c2::c3::c4::c5::c6::c7::c8::I J i::ed::eM::I J M::U G 0 0::I J (0:Nat)::dv::dy::eh::dn::cJ::cF::bX::bY::bZ::b7::b8::cc::cd::cg::ck::cm::cy::cz::cC::cD::cE::cK::cL::cM::cQ::cR::cS::cT::cU::cV::cW::cX::cY::cZ::da::cN::cO::de::dh::cG::dz::dA::dB::dC::dD::dE::dF::dG::dH::dO::dP::dQ::dR::ei::ev::ew::ey::ez::eP::eQ::eR::eS::eT::eU::eV::eA::eB::dW::dX::dY::eC::eD::eE::eF::eG::eH::eI::eJ::eW::eX::eY::eZ::e8::e9::fa::fi::ee::dN::fo::fp::fq::ft::fu::fM::fN::fO::fP::fw::fx::fy::fC::fD::fE::fF::fG::fH::fj::fk::fl::fI::fJ::fK::fL::eO::dV::gJ::gK::gL::gM::gN::[]),[]⟩ w:=by
 conv=>arg 2;arg 1;whnf
 have B:=k.cap;have n:=k.max;unfold maxLen at n;have A:=H k;have E:=H v;obtain⟨W,r,t,y,z⟩:=info_parts Fi;clear k v
 go_loopg [13,14] M (λa v S wr=>∃k:Nat,k<=M/\a=M-k/\S=I J k/\Ow wr (F (X w)) 3 1 v k (nM ((d.drop (i+1)).take k))/\Below (F (X w)) w wr)
 exact⟨0,aI _,rfl,rfl,dm _ _ _ _,aZ _ _⟩
 case round=>
  obtain⟨k,_,_,rfl,a,v⟩:=hrel;obtain⟨_,_,rfl⟩:=aF a
  by_cases S:k<M
  .obtain⟨_,_,x,_,u⟩:=(A.ai v).aC O;injection x with x
   injection x with x s
   subst x s;have cj:=u (i+1+k) O;have s:d[i+1+k]<256:=A.uz _ (aN O)
   have D:=H (show(d.drop (i+1)).take (k+1)=(d.drop (i+1)).take k++[d[i+1+k]] by
    rw[jr (by rw[so];omega),List.getElem_drop])
   generalize d[i+1+k]=x at*;have m:=a.alloc (Vc #[I J (x:Nat)] 3);have l:=H (World.news_of_block (aG wr (Vc #[I J (x:Nat)] 3)));have f:=H a;have h:=H v;have T:=v.size;have R:(k:Int)<M:=O;have N:(i:Int)+1+k<Z d:=O;have L:(0:Int)<=(i:Int)+1+k:=O;clear a v u;go_wp2_with(at_builtin;refine ka _ rfl _ _ 24 rfl (F (X w)) 3 W _ 1 8 underlying24 r t y z rfl oD _ _ _ rfl m (C (F (X wr)) 0 G) 1 1 [I J (x:Nat)] rfl rfl l (by intro u V;rw[bu.1 V];rfl) oM O oT ?_;intro v6 w6 j b e;clear e;obtain⟨_,c6,rfl⟩:=aF j;have q:=H j;have p:=H b;clear j b);go_roundg(M-(k+1))
   case measure=>omega
   case rel=>
    have b:=ag p;have v:=h.alloc h.size (Vc #[I J (x:Nat)] 3);refine⟨k+1,O,rfl,oN,?_,⟨b.os.trans v.os,b.tape.trans v.tape,b.output.trans v.output,bf v.size b.size,λj K=>?_⟩⟩
    .rw[ag D];have:=ag q;unfold nM at this⊢;rw[fg];exact this
    rw[b.block j (oF v.size) (λe=>by have:=(f.lt j e.symm).1;omega)];exact v.block j K
  have b:k=M:=O
  subst b;have f:=H a;have h:=H v;clear a v;go_wp2_with fail;apply E
  .exact f
  exact h
variable {eN et eu:V9}
def AI(id:Nat):Code->List Code
 | .region i ops b=>if i==id then [.region i ops b] else []
 | .loop c=>AI id c
 | .seq a b=>AI id a++AI id b
 | .block _ c=>AI id c
 | .cond _ a b=>AI id a++AI id b
 |_=>[]
noncomputable def aj6(id:Nat):Code:=((f191.body.map (AI id)).getD []).getD 0 .skip
variable {a:Exit->Act->W8->Prop}
def lW{Q c f S}(i d v){j e b}{l:V8}{g w}(o:c[i]?=P j)(m:j.dst=P d)(q:Region.noSelect c=Bt) (n:Region.free f c b i=Bt) (p:(Region.ready f c b).contains i=Bt) (r:YieldsIf Q c S j v ⟨l.toArray,g⟩) (k:S w)(h:wpAnyH Q f c (NoPanic a) S e (b.setIfInBounds i Bt) ⟨(l.set d v).toArray,g⟩ w):wpAnyH Q f c (NoPanic a) S (e+1) b ⟨l.toArray,g⟩ w:=
 wpAnyH_take o q n p (λ_ _ _ h=>h) r k (by rw[m];simp only[Act.put,tm];exact h)
def aj5(j o g oo nb c i t M N u r x p q n R k)(Fc:x<256)(Wv:i<nb)(xq:u<N)(s:Hid (∀V,Below (F (X j)) j V->Ce V (C t 0 G)=P (Y n)/\Ce V (C t 1 G)=P (U k p q)/\Ce V (C t 2 G)=P (Vb Bf)/\Ce V (C t 3 G)=P (I J 0)/\Ce V (C t 4 G)=P (I J 0)/\Ce V (C o 3 G)=P (U (P (C M 0 G)) N N)/\Ce V (C M u G)=P (I J (r:Nat))/\Ce V (C g (oo+i) G)=P (I .u8 (x:Nat))))(m:Hid (∀W,Below (F (X j)) j W->Calls prog 134 #[Va #[Y n,U k p q,Vb Bf,I J 0,I J 0]] W λe V=>e=Vr (Y R)/\Below (F (X W)) W V))(v:Hid (∀W,Below (F (X j)) j W->Calls prog 135 #[Vp (P (C o 0 G)),Y n] W λe V=>e=Vr (I J (u:Nat))/\V=W))(hQ:∀f S h T Q u96 u97 u98 u99 w y z A B D E L d K l b,sr j (Y n) (U k p q) (Vb Bf) (I J 0) (I J 0) (Y R) (I J (r:Nat)) (I J 0) (I J (x:Nat)) (U G 0 0) f S->a .normal ⟨List.toArray (Vp (P (C o 0 G))::U (P (C g oo G)) nb c::c2::c3::c4::c5::c6::c7::c8::I J (i:Nat)::ed::eM::eN::et::eu::dv::dy::Vp (P (C t 0 G))::Vp (P (C f 0 G))::cJ::cF::bX::bY::bZ::b7::b8::cc::cd::cg::ck::cm::cy::cz::cC::cD::cE::cK::cL::cM::cQ::cR::cS::cT::cU::cV::cW::cX::cY::cZ::da::cN::cO::de::dh::cG::dz::dA::dB::dC::dD::dE::dF::dG::dH::dO::dP::dQ::dR::ei::ev::ew::ey::ez::eP::eQ::eR::eS::eT::eU::eV::eA::eB::dW::dX::dY::eC::eD::eE::eF::eG::eH::eI::eJ::h::T::Q::u96::u97::u98::u99::w::y::z::A::B::D::E::L::d::K::l::b::fw::fx::fy::fC::fD::fE::fF::fG::fH::fj::fk::fl::fI::fJ::fK::fL::eO::dV::gJ::gK::gL::gM::gN::[]),[]⟩ S):Code.wp prog (aj6 22) a ⟨List.toArray (Vp (P (C o 0 G))::U (P (C g oo G)) nb c::c2::c3::c4::c5::c6::c7::c8::I J (i:Nat)::ed::eM::eN::et::eu::dv::dy::Vp (P (C t 0 G))::dn::cJ::cF::bX::bY::bZ::b7::b8::cc::cd::cg::ck::cm::cy::cz::cC::cD::cE::cK::cL::cM::cQ::cR::cS::cT::cU::cV::cW::cX::cY::cZ::da::cN::cO::de::dh::cG::dz::dA::dB::dC::dD::dE::dF::dG::dH::dO::dP::dQ::dR::ei::ev::ew::ey::ez::eP::eQ::eR::eS::eT::eU::eV::eA::eB::dW::dX::dY::eC::eD::eE::eF::eG::eH::eI::eJ::eW::eX::eY::eZ::e8::e9::fa::fi::ee::dN::fo::fp::fq::ft::fu::fM::fN::fO::fP::fw::fx::fy::fC::fD::fE::fF::fG::fH::fj::fk::fl::fI::fJ::fK::fL::eO::dV::gJ::gK::gL::gM::gN::[]),[]⟩ j:=by
 conv=>arg 2;whnf
 have HQ:=H hQ;clear hQ;have hwx:IntKind.i64.wrap (x:Int)=x:=by simp[IntKind.wrap,IntKind.signed,IntKind.bits];omega
 have EK:(u:Int)<N:=O
 have EJ:(0:Int)<=u:=O
 have aoM:(i:Int)<nb:=O
 have apo:(0:Int)<=(x:Int):=O
 have apq:(x:Int)<256:=O
 refine wp_region_noPanic ?_;refine wp_region_held_drew (S:=λV=>Below (F (X j)) j V) oK (B9.drew) (λW=>?_);refine lW 0 93 (Va #[Y n,U k p q,Vb Bf,I J 0,I J 0]) rfl rfl oK oK oK (Or.inl ⟨by rfl,λV f=>by obtain⟨w,y,z,A,B,D,E,L⟩:=ag s V f;go_simp⟩) W ?_;simp only[iX,iH];refine lW 1 94 (Va #[Y n,U k p q,Vb Bf,I J 0,I J 0]) rfl rfl oK oK oK (Or.inl ⟨by rfl,λV f=>by obtain⟨w,y,z,A,B,D,E,L⟩:=ag s V f;go_simp⟩) W ?_;simp only[iX,iH];refine lW 3 96 (Vp (P (C o 0 G))) rfl rfl oK oK oK oG W ?_;simp only[iX,iH];refine lW 4 97 (Vp (P (C o 0 G))) rfl rfl oK oK oK oG W ?_;simp only[iX,iH];refine lW 5 98 (Vp (P (C o 3 G))) rfl rfl oK oK oK oG W ?_;simp only[iX,iH];refine lW 6 99 (U (P (C M 0 G)) N N) rfl rfl oK oK oK (Or.inl ⟨by rfl,λV f=>by obtain⟨w,y,z,A,B,D,E,L⟩:=ag s V f;go_simp⟩) W ?_;simp only[iX,iH];refine lW 7 100 (Vp (P (C o 0 G))) rfl rfl oK oK oK oG W ?_;simp only[iX,iH];refine lW 8 101 (Vp (P (C t 0 G))) rfl rfl oK oK oK oG W ?_;simp only[iX,iH];refine lW 9 102 (Y n) rfl rfl oK oK oK (Or.inl ⟨by rfl,λV f=>by obtain⟨w,y,z,A,B,D,E,L⟩:=ag s V f;go_simp⟩) W ?_
 simp only[iX,iH];refine lW 13 106 (U (P (C g oo G)) nb c) rfl rfl oK oK oK oG W ?_;simp only[iX,iH];refine lW 14 107 (I J (i:Nat)) rfl rfl oK oK oK oG W ?_;simp only[iX,iH];refine lW 15 108 (Vp (P (C g (oo+i) G))) rfl rfl oK oK oK oG W ?_;simp only[iX,iH];refine lW 16 109 (I .u8 (x:Nat)) rfl rfl oK oK oK (Or.inl ⟨by rfl,λV f=>by obtain⟨w,y,z,A,B,D,E,L⟩:=ag s V f;go_simp⟩) W ?_;simp only[iX,iH];refine lW 17 110 (I J (x:Nat)) rfl rfl oK oK oK oG W ?_;simp only[iX,iH];refine wpAnyH_ready (rs:=[2,19]) oK oS ?_;refine AllReadyH.cons rfl (λK d=>?_) ?_
 .go_simp
  refine(ag m _ W).mono ?_;rintro e S⟨rfl,l⟩;have b:=W.trans (l.mono W.size);refine d.out _ _ b (λ_=>?_);clear d K W l;have W:=b
  try simp only[Act.put,tm,iX,iH]
  refine wpAnyH_ready (rs:=[10,19]) oK oS ?_;refine AllReadyH.cons rfl (λK d=>?_) ?_
  .go_simp
   refine(ag v _ W).mono ?_;rintro e w3⟨rfl,h⟩;have h:=h.symm;subst h;refine d.out _ _ W (λ_=>?_);clear d K
   try simp only[Act.put,tm,iX,iH]
   refine lW 11 104 (Vp (P (C M u G))) rfl rfl oK oK oK oG W ?_;simp only[iX,iH];refine lW 12 105 (I J (r:Nat)) rfl rfl oK oK oK (Or.inl ⟨by rfl,λV f=>by obtain⟨w,y,z,A,B,D,E,L⟩:=ag s V f;go_simp⟩) W ?_;simp only[iX,iH];refine lW 18 111 (Va #[Y n,U k p q,Vb Bf,I J 0,I J 0,Y R,I J (r:Nat),I J 0,I J (x:Nat),U G 0 0]) rfl rfl oK oK oK oG W ?_;simp only[iX,iH];refine wpAnyH_ready (rs:=[19]) oK oS ?_;refine AllReadyH.cons rfl (λK d=>?_) AllReadyH.nil
   go_simp
   refine d.out _ _ (b.alloc b.size _) (λ_=>?_);clear d K W
   try simp only[Act.put,tm,iX,iH]
   have W:Below (F (X j)) j (Al S (Vc #[Y ⟨#[]⟩,U G 0 0,Vb Bf,I J 0,I J 0,Y ⟨#[]⟩,I J 0,I J 0,I J 0,U G 0 0] 262)):=b.alloc b.size _;refine wpAnyH_ready (rs:=[20]) oK oS ?_;refine AllReadyH.cons rfl (λK d=>?_) AllReadyH.nil
   go_simp
   refine d.out _ _ (b.alloc b.size _) (λ_=>?_);clear d K W
   try simp only[Act.put,tm,iX,iH]
   refine wpAnyH_done oK ?_ _;refine NoPanic.normal ?_;apply ag HQ;exact sr.qw b B9
  refine AllReadyH.cons rfl (λK d=>?_) AllReadyH.nil
  go_simp
  refine d.out _ _ (b.alloc b.size _) (λ_=>?_);clear d K W
  try simp only[Act.put,tm,iX,iH]
  have W:Below (F (X j)) j (Al S (Vc #[Y ⟨#[]⟩,U G 0 0,Vb Bf,I J 0,I J 0,Y ⟨#[]⟩,I J 0,I J 0,I J 0,U G 0 0] 262)):=b.alloc b.size _;refine wpAnyH_ready (rs:=[10]) oK oS ?_;refine AllReadyH.cons rfl (λK d=>?_) AllReadyH.nil
  go_simp
  refine(ag v _ W).mono ?_;rintro e w3⟨rfl,h⟩;have h:=h.symm;subst h;refine d.out _ _ W (λ_=>?_);clear d K
  try simp only[Act.put,tm,iX,iH]
  refine lW 11 104 (Vp (P (C M u G))) rfl rfl oK oK oK oG W ?_;simp only[iX,iH];refine lW 12 105 (I J (r:Nat)) rfl rfl oK oK oK (Or.inl ⟨by rfl,λV f=>by obtain⟨w,y,z,A,B,D,E,L⟩:=ag s V f;go_simp⟩) W ?_;simp only[iX,iH];refine lW 18 111 (Va #[Y n,U k p q,Vb Bf,I J 0,I J 0,Y R,I J (r:Nat),I J 0,I J (x:Nat),U G 0 0]) rfl rfl oK oK oK oG W ?_;simp only[iX,iH];refine wpAnyH_ready (rs:=[20]) oK oS ?_;refine AllReadyH.cons rfl (λK d=>?_) AllReadyH.nil
  go_simp
  refine d.out _ _ (b.alloc b.size _) (λ_=>?_);clear d K W
  try simp only[Act.put,tm,iX,iH]
  refine wpAnyH_done oK ?_ _;refine NoPanic.normal ?_;apply ag HQ;exact sr.qw b B9
 refine AllReadyH.cons rfl (λK d=>?_) AllReadyH.nil
 go_simp
 have T:Below (F (X j)) j ((Al j (Vc #[Y ⟨#[]⟩,U G 0 0,Vb Bf,I J 0,I J 0,Y ⟨#[]⟩,I J 0,I J 0,I J 0,U G 0 0] 262)).drew):=oA.drew;have Q:((Al j (Vc #[Y ⟨#[]⟩,U G 0 0,Vb Bf,I J 0,I J 0,Y ⟨#[]⟩,I J 0,I J 0,I J 0,U G 0 0] 262)).drew).heap[F (X j)]?=P (Vc #[Y ⟨#[]⟩,U G 0 0,Vb Bf,I J 0,I J 0,Y ⟨#[]⟩,I J 0,I J 0,I J 0,U G 0 0] 262):=aG j _;refine d.out _ _ T (λ_=>?_);clear d K W;have W:=T
 try simp only[Act.put,tm,iX,iH]
 refine wpAnyH_ready (rs:=[2]) oK oS ?_;refine AllReadyH.cons rfl (λK d=>?_) AllReadyH.nil
 go_simp
 refine(ag m _ W).mono ?_;rintro e S⟨rfl,l⟩;replace Q:=(l.block _ (aM.1 Q).1).trans Q;have b:=W.trans (l.mono W.size);refine d.out _ _ b (λ_=>?_);clear d K W l;have W:=b
 try simp only[Act.put,tm,iX,iH]
 refine wpAnyH_ready (rs:=[10]) oK oS ?_;refine AllReadyH.cons rfl (λK d=>?_) AllReadyH.nil
 go_simp
 refine(ag v _ W).mono ?_;rintro e w3⟨rfl,h⟩;have h:=h.symm;subst h;refine d.out _ _ W (λ_=>?_);clear d K
 try simp only[Act.put,tm,iX,iH]
 refine lW 11 104 (Vp (P (C M u G))) rfl rfl oK oK oK oG W ?_;simp only[iX,iH];refine lW 12 105 (I J (r:Nat)) rfl rfl oK oK oK (Or.inl ⟨by rfl,λV f=>by obtain⟨w,y,z,A,B,D,E,L⟩:=ag s V f;go_simp⟩) W ?_;simp only[iX,iH];refine lW 18 111 (Va #[Y n,U k p q,Vb Bf,I J 0,I J 0,Y R,I J (r:Nat),I J 0,I J (x:Nat),U G 0 0]) rfl rfl oK oK oK oG W ?_;simp only[iX,iH];refine wpAnyH_ready (rs:=[20]) oK oS ?_;refine AllReadyH.cons rfl (λK d=>?_) AllReadyH.nil;obtain⟨h,_⟩:=aj Q 0;obtain⟨l,_⟩:=aj Q 1;obtain⟨k2,_⟩:=aj Q 2;obtain⟨k3,_⟩:=aj Q 3;obtain⟨k4,_⟩:=aj Q 4;obtain⟨k5,_⟩:=aj Q 5;obtain⟨k6,_⟩:=aj Q 6;obtain⟨k7,_⟩:=aj Q 7;obtain⟨k8,_⟩:=aj Q 8;obtain⟨k9,_⟩:=aj Q 9;simp only[bt,aT,bx]at h l k2 k3 k4 k5 k6 k7 k8 k9;have V:=sr.ahead (v0:=Y n) (v1:=U k p q) (v2:=Vb Bf) (v3:=I J 0) (v4:=I J 0) (v5:=Y R) (v6:=I J (r:Nat)) (v7:=I J 0) (v8:=I J (x:Nat)) (v9:=U G 0 0) b L9 Q B9;have f:=H V;clear V
 go_simp
 with_reducible refine d.out _ _ (ag f).ai (λ_=>?_)
 clear d K W
 try simp only[Act.put,tm,iX,iH]
 refine wpAnyH_done oK ?_ _;refine NoPanic.normal ?_;apply ag HQ
 with_reducible exact ag f
def rY(pos:List Nat):List Nat->Option (Nat×List Nat)
 | []=>G
 |r::q=>match pos[r]? with
  |none=>G
  |some m=>if (Z q)<m then G else P (r,q.take m)
inductive Hk (w w':W8):Option (Nat×List Nat)->Ending->Prop
 |no:Hk w w' G (Vr (Vt #[Va #[I J 0,U G 0 0],Vb Bf]))
 |yes {r:Nat} {fr:List Nat} {a:O8} {c:Nat}:Ow w' (F (X w)) 3 1 (U a (Z fr) c) (Z fr) (jk fr)->Hk w w' (P (r,fr)) (Vr (Vt #[Va #[I J (r:Nat),U a (Z fr) c],Vb Bt]))
structure o5(w:W8)(r:Nat)(fr:List Nat)(v:V9)(wr:W8):Prop where
 k:Below (F (X w)) w wr
 gO:wr.heap[F (X w)]?=P (Vc #[I J 0,U G 0 0] 150)
 box:wr.heap[F (X w)+1]?=P (Vc #[I J (r:Nat),v] 150)
 row:Ow wr (F (X w)+1+1) 3 1 v (Z fr) (jk fr)
variable {a:List Nat}{b:Nat}{f:W8}
def o5.lt(h:o5 d b a c e):F (X d)+1<F (X e):=(aM.1 h.box).1
def o5.ai(h:o5 d b a c e)(k:Below (F (X e)) e f):o5 d b a c f:=
 have l:=h.lt
 ⟨h.k.trans (k.mono h.k.size),(k.block _ O).trans h.gO,(k.block _ l).trans h.box,aQ h.row k (λg w=>(h.row.lt g w).2)⟩
def o5.start(w r):o5 w r [] (U G 0 0) (Al (Al w (Vc #[I J 0,U G 0 0] 150)) (Vc #[I J (r:Nat),U G 0 0] 150)):=by
 refine⟨((aZ _ w).alloc L9 _).alloc oS _,?_,?_,dm _ _ _ _⟩
 .rw[aW _ _ _ oS];exact aG w _
 have:=aG (Al w (Vc #[I J 0,U G 0 0] 150)) (Vc #[I J (r:Nat),U G 0 0] 150);rw[bL]at this;exact this
def o5.add{W w5 v' x}(h:o5 d b a c e)(m:Below (F (X e)) e W)(w:W.grownBy w5 c.ownBlock)(f:Ow w5 (F (X d)+1+1) 3 1 v' (Z a+1) (jk a++[I J (x:Nat)])):o5 d b (a++[x]) v' (Sc w5 (C (F (X d)+1) 1 G) v'):=by
 have v:=h.ai m;have l:=v.lt;have g:=ak.jF w;have r:∀x∈c.ownBlock.toList,F (X d)+1+1<=x:=λx k=>(v.row.lt x (oU k)).1
 have k:w5.heap[F (X d)+1]?=P (Vc #[I J (b:Nat),c] 150):=(g.block _ l (λi=>by have:=r _ i;omega)).trans v.box;have j:w5.heap[F (X d)]?=P (Vc #[I J 0,U G 0 0] 150):=(g.block _ O (λi=>by have:=r _ i;omega)).trans v.gO;refine⟨?_,?_,by rw[j9 _ _ _ _ _ _ k];rfl,?_⟩
 .refine Below.setCell ?_ (by show(F (X d))<=F (X d)+1;omega) _;have o:=v.k.size;refine⟨w.os.trans v.k.os,w.tape.trans v.k.tape,w.output.trans v.k.output,bf v.k.size w.size,λi n=>?_⟩;rw[w.block i O (λwr=>by have:=(v.row.lt i wr.symm).1;omega)];exact v.k.block i n
 .rw[cx _ _ _ _ (by show(F (X d))≠(F (X d))+1;omega)];exact j
 rw[br,show jk (a++[x])=jk a++[I J (x:Nat)] by unfold jk;rw[fg];rfl];exact fh f (by show(F (X d))+1<_;omega) _
def o5.Ji{r}(h:o5 d b a c e)(w:Below (F (X e)) e f)(wr:f.grownBy r c.ownBlock):r.heap[F (X d)+1]?=P (Vc #[I J (b:Nat),c] 150):=by have v:=h.ai w;have l:=v.lt;have g:=ak.jF wr;exact(g.block _ l (λW=>by have:=(v.row.lt _ (oU W)).1;omega)).trans v.box
def o5.Qe(h:o5 d b a c e):Ce e (C (F (X d)) 0 G)=P (I J 0)/\Ce e (C (F (X d)) 1 G)=P (U G 0 0)/\e.frozen? (C (F (X d)) 0 G)=Bf/\e.frozen? (C (F (X d)) 1 G)=false:=⟨(aj h.gO 0).1,(aj h.gO 1).1,(aj h.gO 0).2,(aj h.gO 1).2⟩
def al2(w s a c W)(j:ky w a c W)(ar cr d)(m:gi w s (U ar (Z d) cr) d)(h3:∀r∈d,Z r.bs<=3):Calls prog 177 #[U a (Z W) c,U ar (Z d) cr] w λe i=>Hk w i (rY (iv d) W) e/\Below (F (X w)) w i:=by
 have i:Below (F (X w)) w (Al w (Vc #[I J 0,U G 0 0] 150)):=B9.alloc L9 _;have E:Ce (Al w (Vc #[I J 0,U G 0 0] 150)) (C (F (X w)) 0 G)=P (I J 0):=(aj (aG w _) 0).1;have u:Ce (Al w (Vc #[I J 0,U G 0 0] 150)) (C (F (X w)) 1 G)=P (U G 0 0):=(aj (aG w _) 1).1;have B:=H i;have HR:=H m
 cases W with
 |nil=>clear j m i;go_in;go_wp2_with fail;refine bN (v:=Vt #[Va #[I J 0,U G 0 0],Vb Bf]) (by simp[results,results177,go_sem]) rfl ?_;exact⟨.no,B⟩
 |cons r q=>
  obtain⟨g,o,rfl,hg,b⟩:=j.aC oS;have aph:=j.uz r bz;have N:=j.cap;have Cs:=j.max;have HB:=H j;have M:=(i.cell (p:=(C g o G)) hg).trans (b 0 oS);simp only[DN]at M;have p:(r::q).length=Z q+1:=rfl;rw[p]at N⊢;clear j m i b p;have hq0:((Z q:Int)+1==0)=false:=by rw[BK];omega
  by_cases p:r<Z d
  .have Xb:(r:Int)<Z d:=O;have Cu:¬(Z d)<=r:=O;have IN:(d[r].bs.filter (dJ Bf)).length=(aY d[r].bs).length:=(by unfold aY dq;rw[bF,bF]);have j:(iv d)[r]?=P (aY d[r].bs).length:=(by unfold iv;rw[gP,dr p];rfl);have qG:(aY d[r].bs).length<=3:=bf (PT _) (h3 _ (aN p));have i:=o5.start w r;go_in;go_upto_region 4 with fail;clear M;generalize(Al (Al w (Vc #[I J 0,U G 0 0] 150)) (Vc #[I J (r:Nat),U G 0 0] 150))=w1 at*;have m:=HR.ai i.k;obtain⟨_,_,po,_,_,_,_,M⟩:=gu AG m.row r p;injection po with b h5 L
   subst b L;have b:=m.aK _ (aN p);obtain⟨ah,ch,hbh⟩:=aF b.hd;obtain⟨ab,cb,L⟩:=aF b.bo.row;have D:=M 0 O;have K:=M 1 O;have Q:=M 2 O;simp only[PR.cells,hbh,L,iy,aT,bx]at D K Q;obtain⟨t,-⟩:=aj i.box 0;simp only[bt,aT]at t;have v:=b.bo;rw[L]at v;have k:=H (FL w1 s d[r].R.pd ah d[r].R.ts.length ch ab cb d[r].bs v (oF (h3 _ (aN p))));have x:=H i;clear b v M m i E u;go_wp2_with fail;refine(k).mono ?_;rintro e w2⟨_,_,rfl,-,qD,-⟩;have i:=x.ai qD;have E:=HB.ai i.k;have v:=i.box;rw[IN];generalize u:(aY d[r].bs).length=M at*
   by_cases hq:Z q<M
   .have A:=H (show rY (iv d) (r::q)=G by rw[rY];simp only[j];rw[aD hq]);obtain⟨V,s1,f0,f1⟩:=i.Qe;have m:=H i.k;have W3:(Z q:Int)+1<1+M:=O;clear i E v j k x t D K Q u;go_wp2_with fail;obtain⟨S,T⟩:=xg V s1 (I J 0) (U G 0 0);refine bN (v:=Vt #[Va #[I J 0,U G 0 0],Vb Bf]) (by simp[results,results177,go_sem,S,T]) rfl ?_;rw[ag A];exact⟨.no,(m.setCell L9 _).setCell L9 _⟩
   have A:=H (show rY (iv d) (r::q)=P (r,q.take M) by rw[rY];simp only[j];rw[aB hq]);have W3:¬(Z q:Int)+1<1+M:=O;obtain⟨i0,hi,gB,dx,cB⟩:=info_parts Fi;have m:=H i;have s1:(1:Int)<=1+M:=O;have s2:(1:Int)+M<=c:=O;have s3:(0:Int)<=1+M:=O;clear i E v j k x t D K Q u
   by_cases hc1:c=1
   .have i:M=0:=O;subst i;go_wp2
    go_loopg [45] 0 (λx i wr=>x=0/\i=I J 0/\o5 w r [] (U G 0 0) wr)
    exact⟨rfl,rfl,m⟩
    case round=>clear m;obtain⟨_,rfl,b⟩:=hrel;obtain⟨t,bf0⟩:=aj b.box 0;obtain⟨E,bf1⟩:=aj b.box 1;obtain⟨V,s4,f0,f1⟩:=b.Qe;simp only[bt,aT,bx]at t E;have k:=H b;clear b;go_wp2_with fail;obtain⟨S,T⟩:=xg V s4 (I J (r:Nat)) (U G 0 0);refine bN (v:=Vt #[Va #[I J (r:Nat),U G 0 0],Vb Bt]) (by simp[results,results177,go_sem,S,T]) rfl ?_;rw[ag A];exact⟨.yes (fr:=q.take 0) (dm _ _ _ _),(k.k.setCell L9 _).setCell L9 _⟩
   go_wp2_with fail;rw[show 1+M-1=M by omega]
   go_loopg [45] M (λx i wr=>∃(j:Nat)(v:V9),j<=M/\x=M-j/\i=I J j/\o5 w r (q.take j) v wr)
   exact⟨0,_,aI _,rfl,rfl,m⟩
   case round=>
    clear m;obtain⟨j,v,_,_,rfl,b⟩:=hrel;obtain⟨D,K,rfl⟩:=aF b.row;have mM:=b.lt;have m:(q.take j).length=j:=(by rw[qk];omega);obtain⟨t,bf0⟩:=aj b.box 0;obtain⟨E,bf1⟩:=aj b.box 1;simp only[bt,aT,bx]at t E
    by_cases yW:j<M
    .have Q:j<Z q:=O;obtain⟨_,_,x,_,u⟩:=(HB.ai b.k).aC oS;injection x with x
     injection x with x f
     subst x f;have cj:=u (j+1) oT;simp only[DM]at cj;have Fc:q[j]<256:=HB.uz _ (bG _ (aN Q));have Cl:(j:Int)<M:=O;have HT:=H (show q.take (j+1)=q.take j++[q[j]] from jr Q);generalize q[j]=x at*;rw[show o+(j+1)=o+1+j by omega]at cj;have f:=b.row;have n:=f.alloc (Vc #[I J (x:Nat)] 3);have z:=H (World.news_of_block (aG wr (Vc #[I J (x:Nat)] 3)));have k:=H b;rw[m]at E n;generalize h:q.take j=i at*;have HF:=H h;have l:=H m;clear b f u h m;go_wp2_with(at_builtin;refine ka _ rfl _ _ 24 rfl (F (X w)+1+1) 3 i0 _ 1 8 underlying24 hi gB dx cB rfl oD _ _ _ rfl n (C (F (X wr)) 0 G) 1 1 [I J (x:Nat)] rfl rfl z (by intro u hu;rw[bu.1 hu];rfl) oM O oT ?_;intro v6 w6 h y R;clear R;obtain⟨a6,c6,rfl⟩:=aF h;have R:=k.Ji oA (by rw[ag l];exact y);obtain⟨_,_⟩:=aj R 1;have HI6:=H (k.add (x:=x) (v':=U a6 (j+1) c6) oA (by rw[ag l];exact y) (by rw[ag l];exact h));clear h y R);go_roundg(M-(j+1));exact⟨j+1,_,O,rfl,oN,by rw[ag HT];exact HI6⟩;omega
    have i:j=M:=O;subst i;obtain⟨V,s4,f0,f1⟩:=b.Qe;have f:=b.row;rw[m]at f E;have i:=H (show Ow wr (F (X w)+1+1) 3 1 (U D j K) j (jk (q.take j)) from f);have k:=H b;have l:=H m;clear b f m;go_wp2_with fail;obtain⟨S,T⟩:=xg V s4 (I J (r:Nat)) (U D j K);refine bN (v:=Vt #[Va #[I J (r:Nat),U D j K],Vb Bt]) (by simp[results,results177,go_sem,S,T]) rfl ?_;rw[ag A];have m:=Hk.yes (w:=w) (w':=Sc (Sc wr (C (F (X w)) 0 G) (I J (r:Nat))) (C (F (X w)) 1 G) (U D j K)) (r:=r) (fr:=q.take j) (a:=D) (c:=K) (by rw[ag l];exact aX (fh (fh i (by show(F (X w))<_;omega) _) (by show(F (X w))<_;omega) _) O);rw[ag l]at m;exact⟨m,(k.k.setCell L9 _).setCell L9 _⟩
  have Xb:¬(r:Int)<Z d:=O
  have A:=H (show rY (iv d) (r::q)=G by rw[rY,od (by unfold iv;rw[bF];omega)]);go_in;go_wp2_with fail;refine bN (v:=Vt #[Va #[I J 0,U G 0 0],Vb Bf]) (by simp[results,results177,go_sem]) rfl ?_;rw[ag A];exact⟨.no,B⟩
def Z1(b n a):kM b (n+1) a=match rY b a with|none=>G|some x=>match kM b n (a.drop (1+x.2.length)) with|none=>G|some l=>P (x::l):=by
 cases a with
 |nil=>rfl
 |cons r q=>
  rw[kM,rY]
  cases c:b[r]? with
  |none=>rfl
  |some m=>
   simp only
   by_cases h:Z q<m
   .rw[aD h,aD h]
   rw[aB h,aB h];simp only[qk];rw[show(r::q).drop (1+min m (Z q))=q.drop m by rw[Nat.add_comm,By,BG O]]
   cases kM b n (q.drop m)<;>rfl
variable {f:List Nat}
def al1{a x}(h:rY f a=P x):1+x.2.length<=Z a:=by
 cases a with
 |nil=>cases h
 |cons r q=>
  rw[rY]at h
  split at h
  .cases h
  split at h
  .cases h
  obtain rfl:=cI h;simp only[qk,ff];omega
def al0{d}(e:∀r∈d,Z r.bs<=3){x}(h:rY (iv d) f=P x):x.2.length<=3:=by
 cases f with
 |nil=>cases h
 |cons r q=>
  rw[rY]at h
  split at h
  .cases h
  rename_i m b
  split at h
  .cases h
  obtain rfl:=cI h;unfold iv at b;rw[gP]at b
  cases c:d[r]? with
  |none=>rw[c]at b;cases b
  |some R=>rw[c]at b;obtain rfl:=cI b;have a:=PT R.bs;have g:=e R (tg c);simp only[qk];omega
structure qS(w:W8)(k:Nat)(ic:List ND)(nv:V9)(wr:W8):Prop where
 kp:Below (F (X w)) w wr
 gO:wr.heap[F (X w)]?=P (Vc #[I J 0,U G 0 0] 93)
 box:wr.heap[F (X w)+1]?=P (Vc #[I J (k:Nat),nv] 93)
 ic:oh wr (F (X w)+1+1) nv ic
variable {a:List ND}{g:W8}
def qS.lt(h:qS d b a c e):F (X d)+1<F (X e):=(aM.1 h.box).1
def qS.ai(h:qS e b a c g)(w:Below (F (X g)) g d):qS e b a c d:=
 have l:=h.lt
 ⟨h.kp.trans (w.mono h.kp.size),(w.block _ O).trans h.gO,(w.block _ l).trans h.box,h.ic.ai w⟩
def qS.start(w k):qS w k [] (U G 0 0) (Al (Al w (Vc #[I J 0,U G 0 0] 93)) (Vc #[I J (k:Nat),U G 0 0] 93)):=by
 refine⟨((aZ _ w).alloc L9 _).alloc oS _,?_,?_,⟨dm _ _ _ _,oS⟩⟩
 .rw[aW _ _ _ oS];exact aG w _
 have:=aG (Al w (Vc #[I J 0,U G 0 0] 93)) (Vc #[I J (k:Nat),U G 0 0] 93);rw[bL]at this;exact this
def qS.Ji{W}(h:qS e b a c g)(w:Below (F (X g)) g W)(f:W.grownBy d c.ownBlock):d.heap[F (X e)+1]?=P (Vc #[I J (b:Nat),c] 93):=by have k:=h.ai w;have l:=k.lt;have i:=ak.jF f;exact(i.block _ l (λwr=>by have:=(k.ic.row.lt _ (oU wr)).1;omega)).trans k.box
def qS.add{W w5 v' x}(h:qS d b a c e)(n:Ow e (F (X d)+1+1) 3 1 x.v (Z x.fr) (jk x.fr))(o:Below (F (X e)) e W)(w:W.grownBy w5 c.ownBlock)(j:Ow w5 (F (X d)+1+1) 150 2 v' (Z a+1) (a.flatMap sO++sO x)):qS d b (a++[x]) v' (Sc w5 (C (F (X d)+1) 1 G) v'):=by
 have m:=h.ai o;have l:=m.lt;have q:=ak.jF w;have f:∀x∈c.ownBlock.toList,F (X d)+1+1<=x:=λx n=>(m.ic.row.lt x (oU n)).1
 have r:∀k∈c.ownBlock.toList,er W 3 k:=gl m.ic.row oD;have t:=h.Ji o w;have s:w5.heap[F (X d)]?=P (Vc #[I J 0,U G 0 0] 93):=(q.block _ O (λp=>by have:=f _ p;omega)).trans m.gO;have p:=aQ n o (λg wr=>(n.lt g wr).2);refine⟨?_,?_,by rw[j9 _ _ _ _ _ _ t];rfl,⟨?_,λy g=>?_⟩⟩
 .refine Below.setCell ?_ (by show(F (X d))<=F (X d)+1;omega) _;have v:=m.kp.size;refine⟨w.os.trans m.kp.os,w.tape.trans m.kp.tape,w.output.trans m.kp.output,bf m.kp.size w.size,λi u=>?_⟩;rw[w.block i O (λwr=>by have:=(m.ic.row.lt i wr.symm).1;omega)];exact m.kp.block i u
 .rw[cx _ _ _ _ (by show(F (X d))≠(F (X d))+1;omega)];exact s
 .rw[br,oc];have:=fh (a:=(C (F (X d)+1) 1 G)) j (by show(F (X d))+1<_;omega) v';simpa using this
 refine fh ?_ (by show(F (X d))+1<_;omega) _;rcases aS.1 g with g|g
 .exact j3 (m.ic.aK y g) q (λk y=>.inr (r k y))
 rw[bu.1 g];exact j3 p q (λk y=>.inr (r k y))
inductive Di (w w':W8):Option (Nat×List (Nat×List Nat))->Ending->Prop
 |no:Di w w' G (Vr (Vt #[Va #[I J 0,U G 0 0],Vb Bf]))
 |yes {k:Nat} {ic:List ND} {a:O8} {c:Nat}:oh w' (F (X w)) (U a (Z ic) c) ic->Di w w' (P (k,ic.map gw)) (Vr (Vt #[Va #[I J (k:Nat),U a (Z ic) c],Vb Bt]))
def rJ(pos bs:List Nat):Option (Nat×List (Nat×List Nat)):=match bs with
 |k::n::rest=>if 50<n then G else(kM pos n rest).map λl=>(k,l)
 |_=>G
def ag3(w R a c bs)(l:ky w a c bs)(ar cr u)(d:gi w R (U ar (Z u) cr) u)(h3:∀r∈u,Z r.bs<=3):Calls prog 121 #[U a (Z bs) c,U ar (Z u) cr] w λe V=>Di w V (rJ (iv u) bs) e/\Below (F (X w)) w V:=by
 have V:Below (F (X w)) w (Al w (Vc #[I J 0,U G 0 0] 93)):=B9.alloc L9 _;have S:=H V;have HR:=H d
 match bs,l with
 | [],l=>clear l d V;go_in;go_wp2_with fail;refine bN (v:=Vt #[Va #[I J 0,U G 0 0],Vb Bf]) (by simp[results,results121,go_sem]) rfl ?_;exact⟨.no,S⟩
 | [x],l=>clear l d V;go_in;go_wp2_with fail;refine bN (v:=Vt #[Va #[I J 0,U G 0 0],Vb Bf]) (by simp[results,results121,go_sem]) rfl ?_;exact⟨.no,S⟩
 |k::n::rest,l=>
  obtain⟨g,o,rfl,hg,b⟩:=l.aC oS;have Wz:=l.uz k bz;have agQ:=l.uz n (bG _ bz);have f:=l.cap;have Cs:=l.max;have i:=H (l.drop 2);have m:=(V.cell (p:=(C g o G)) hg).trans (b 0 oS);have W:=(V.cell (p:=(C g (o+1) G)) hg).trans (b 1 oS);simp only[DN,DM]at m W;have v:(k::n::rest).length=Z rest+1+1:=rfl;rw[v]at f⊢;have N3:¬((Z rest:Int)+1+1<2):=O
  clear l d V b v
  by_cases hn:50<n
  .have vJ:(50:Int)<n:=O;have HN:=H (show rJ (iv u) (k::n::rest)=G by unfold rJ;simp only;rw[aD hn]);go_in;go_wp2_with fail;refine bN (v:=Vt #[Va #[I J 0,U G 0 0],Vb Bf]) (by simp[results,results121,go_sem]) rfl ?_;rw[ag HN];exact⟨.no,S⟩
  have vJ:¬(50:Int)<n:=O
  have HN:=H (show rJ (iv u) (k::n::rest)=(kM (iv u) n rest).map λl=>(k,l) by unfold rJ;simp only;rw[aB hn]);have v:=qS.start w k;go_in;go_upto_region 4 with fail;have k1:=v.kp;have d1:Ce (Al (Al w (Vc #[I J 0,U G 0 0] 93)) (Vc #[I J (k:Nat),U G 0 0] 93)) (C g (o+1) G)=P (I .u8 (n:Nat)):=by rw[World.cell?_alloc_past _ _ _ oT];exact W
  have oR:=H (show ky w (P (C g (o+2) G)) (c-2) rest from i);clear m W i;generalize(Al (Al w (Vc #[I J 0,U G 0 0] 93)) (Vc #[I J (k:Nat),U G 0 0] 93))=w1 at*;have d:=H v;clear v
  go_cut [7] (λv wc=>∃V W,v=U V (Z rest) W/\ky w V W rest/\wc=w1)
  case first=>
   have s1:(2:Int)<=(Z rest:Int)+1+1:=O;have b:=H (And.intro f Cs);clear f;go_wp2_with fail
   .subst h;go_meet
    case rel=>have ER:rest=[]:=wK (oF b.1);refine⟨_,_,rfl,?_,rfl⟩;rw[ER];exact ky.none _ _ oM
   go_meet
   case rel=>exact⟨_,_,rfl,oR,rfl⟩
  case rest=>
   generalize wc=wA at*;obtain⟨a0,c0',rfl,b,f⟩:=hcut;subst f;have f:=H b;clear b;go_wp2
   go_loopg [7,30] n (λj v D wr=>∃(i:Nat)(m:List ND)(nv:V9)(b:List Nat)(V:O8)(W:Nat),i<=n/\j=n-i/\v=U V (Z b) W/\D=I .u8 i/\qS w k m nv wr/\ky w V W b/\(Z m)=i/\kM (iv u) n rest=(kM (iv u) (n-i) b).map (m.map gw++·))
   exact⟨0,[],_,rest,a0,c0',aI _,rfl,rfl,rfl,d,f,rfl,by rw[Nat.sub_zero];cases kM (iv u) n rest<;>rfl⟩
   case round=>
    clear d f;obtain⟨i,m,nv,b,V,W,_,_,rfl,rfl,d,D,N,j⟩:=hrel;obtain⟨an,cn,rfl⟩:=aF d.ic.row;have t:=H d;have f:=H D;have s:=H j;have T:=H N
    by_cases aoN:i<n
    .have tK:(i:Int)<n:=O;have z:=H (al2 wr R V W b (D.ai d.kp) ar cr u (HR.ai d.kp) h3);clear d D j N;go_wp2_with fail;refine(z).mono ?_;rintro e K⟨hO,qD⟩;generalize hX:rY (iv u) b=v at hO
     cases hO with
     |no=>
      have y:=t.ai qD;obtain⟨s0,f0⟩:=aj y.gO 0;obtain⟨s1,f1⟩:=aj y.gO 1;simp only[bt,aT,bx]at s0 s1;have agF:=y.lt;have p:F (X w)<F (X K):=O
      have B:=H (show rJ (iv u) (k::n::rest)=G by
       rw[ag HN,ag s,show n-i=(n-i-1)+1 by omega,Z1,hX]
       rfl)
      have M:=H y.kp;clear y hX z s f t;go_upto_region 9 with fail;have Q:=(aZ (F (X K)) K).alloc L9 (Vc #[I J 0,U G 0 0] 150);have E:=(Q.cell (p:=(C (F (X w)) 0 G)) p).trans s0;have A:=(Q.cell (p:=(C (F (X w)) 1 G)) p).trans s1;have q:=(Q.frozen (p:=(C (F (X w)) 0 G)) p).trans f0;have g1:=(Q.frozen (p:=(C (F (X w)) 1 G)) p).trans f1;have L:=H (M.alloc (DQ p) (Vc #[I J 0,U G 0 0] 150));clear Q;generalize(Al K (Vc #[I J 0,U G 0 0] 150))=w3 at*;go_wp2_with fail;obtain⟨p0,p1⟩:=xg E A (I J 0) (U G 0 0);refine bN (v:=Vt #[Va #[I J 0,U G 0 0],Vb Bf]) (by simp[results,results121,go_sem,p0,p1]) rfl ?_;rw[ag B];exact⟨.no,(L.setCell L9 _).setCell L9 _⟩
     | @yes r p L M E=>
      have y:=t.ai qD;obtain⟨q0,e0⟩:=aj y.box 0;obtain⟨q1,e1⟩:=aj y.box 1;simp only[bt,aT,bx]at q0 q1;have agF:=y.lt;have mN:=al1 hX;have hf3:=al0 h3 hX;have HX:=H hX;have yg:=H y;have Q:=(aZ (F (X K)) K).alloc L9 (Vc #[I J (r:Nat),U L (Z p) M] 150);have A:=y.ai Q;have OA:=aQ E Q (λg e=>(E.lt g e).2);have q:=aG K (Vc #[I J (r:Nat),U L (Z p) M] 150);have Ws:F (X w)+1+1<=F (X wr):=(oF t.lt);have R9:=H Ws;have hnw:=qD.size;have HNR:=H (λg e=>(t.ic.row.lt g e).2);clear y hX z t q0 q1 e0 e1 yg E;go_upto_region 10 with fail;generalize E:(Al K (Vc #[I J (r:Nat),U L (Z p) M] 150))=w3 at*;generalize(F (X K))=nb at*;clear E Q;obtain⟨q0,e0⟩:=aj A.box 0;obtain⟨q1,e1⟩:=aj A.box 1;obtain⟨m0,-⟩:=aj q 0;obtain⟨m1,-⟩:=aj q 1;simp only[bt,aT,bx]at q0 q1 m0 m1;have WJ:=A.lt;have Ct:=(aM.1 q).1;obtain⟨i0,hi,gB,dx,cB⟩:=info_parts OE;have E:=A.ic.row.alloc (Vc #[I J (r:Nat),U L (Z p) M] 150);have z:=H A;have HX3:=H OA;have apa:Z m<=50:=(oF (ag T));have pC:=H q;clear A OA q;go_upto_region 11 with(at_builtin;refine ka _ rfl _ _ 91 rfl (F (X w)+1+1) 150 i0 _ 2 32 underlying91 hi gB dx cB rfl oD _ _ _ rfl E (C (F (X w3)) 0 G) 1 1 (sO ⟨r,p,U L (Z p) M⟩) rfl rfl (Y3 w3 ⟨r,p,U L (Z p) M⟩) (Y4 _) oM O oT ?_;intro v5 w5 q Q A;clear A;obtain⟨a5,A,rfl⟩:=aF q;have Cr:=z.Ji oA Q;obtain⟨j1,jf1⟩:=aj Cr 1;have Gt:=H q;have y:=H Q;clear q Q Cr)
      have VF:=z.add (x:=⟨r,p,U L (Z p) M⟩) (aX HX3 R9) oA y Gt
      have Q:=H (show kM (iv u) n rest=(kM (iv u) (n-(i+1)) (b.drop (1+Z p))).map ((m++[(⟨r,p,U L (Z p) M⟩:ND)]).map gw++·) by
       rw[ag s,show n-i=(n-(i+1))+1 by omega,Z1,ag HX];simp only
       cases kM (iv u) (n-(i+1)) (b.drop (1+Z p)) with
       |none=>rfl
       |some l=>simp[gw])
      obtain⟨_,_,rfl,_,-⟩:=f.aC O;have aoG:=f.cap;have aoX:=f.max;have HBD:=H (f.drop (1+Z p));have ap0:F (X w3)<=F (X w5):=(by have:=y.size;simp at this;omega);have apb:Ce (Sc w5 (C (F (X w)+1) 1 G) (U a5 (Z m+1) A)) (C nb 1 G)=P (U L (Z p) M):=by rw[World.cell?_setCell_far _ _ _ _ (by show(F (X w))+1≠nb;have:=ag R9;omega)];have q:=y.block nb oT (λe=>by have:=ag HNR nb e.symm;omega);refine(j8 (a:=(C nb 1 G)) (q.trans (aW _ _ _ Ct))).trans ?_;exact(aj pC 1).1
      generalize(Sc w5 (C (F (X w)+1) 1 G) (U a5 (Z m+1) A))=w6 at*;have q:=H VF;have hs1:(1:Int)+Z p<=Z b:=O;have xv:(0:Int)<=1+Z p:=O;clear VF s f j1 jf1 q0 q1 m0 m1 e0 e1 E;go_wp2_with fail
      .have ER:b.drop (1+Z p)=[]:=wK (by rw[so];omega);go_roundg(n-(i+1));exact⟨i+1,_,_,b.drop (1+Z p),_,_,O,rfl,by rw[so],oN,q,by rw[ER];exact ky.none _ _ oM,by simp[ag T],Q⟩;omega
      go_roundg(n-(i+1));exact⟨i+1,_,_,b.drop (1+Z p),_,_,O,rfl,by rw[so],oN,q,HBD,by simp[ag T],Q⟩;omega
    have p:i=n:=O;subst p;obtain⟨s0,f0⟩:=aj d.gO 0;obtain⟨s1,f1⟩:=aj d.gO 1;obtain⟨q0,e0⟩:=aj d.box 0;obtain⟨q1,e1⟩:=aj d.box 1;simp only[bt,aT,bx]at s0 s1 q0 q1;have v:=d.lt;have p:F (X w)<F (X w)+1+1:=O;rw[Nat.sub_self]at j
    cases b with
    |nil=>have B:=H (show rJ (iv u) (k::i::rest)=P (k,m.map gw) by rw[ag HN,j];simp[kM]);clear d D j N s f;go_wp2_with fail;obtain⟨p0,p1⟩:=xg s0 s1 (I J (k:Nat)) (U an (Z m) cn);refine bN (v:=Vt #[Va #[I J (k:Nat),U an (Z m) cn],Vb Bt]) (by simp[results,results121,go_sem,p0,p1]) rfl ?_;rw[ag B];refine⟨.yes ?_,(t.kp.setCell L9 _).setCell L9 _⟩;have q:=t.ic;exact⟨aX (fh (fh q.row p _) p _) O,λy z=>aX (fh (fh (q.aK y z) p _) p _) O⟩
    |cons x q=>have B:=H (show rJ (iv u) (k::i::rest)=G by rw[ag HN,j];rfl);have y:(x::q).length=Z q+1:=rfl;rw[y];have z:(0:Int)<(Z q:Int)+1:=O;clear d D j N s f y;go_wp2_with fail;obtain⟨p0,p1⟩:=xg s0 s1 (I J 0) (U G 0 0);refine bN (v:=Vt #[Va #[I J 0,U G 0 0],Vb Bf]) (by simp[results,results121,go_sem,p0,p1]) rfl ?_;rw[ag B];exact⟨.no,(t.kp.setCell L9 _).setCell L9 _⟩
def iE(st:List gR):List (Th×Nat):=(st.map (·.t)).zipIdx
def A4(Sp:B8->Nat)(k:Nat)(st:List gR):Prop:=∀s∈st,∀a∈jj s.r.bs,bM s.e a∉st.map (·.t)/\Sp a.p<k
def Dh(Sp:B8->Nat)(k:Nat)(rp:List PR)(st:List gR):Prop:=∀r∈rp,Sp r.R.pd<k->∀e∈jn (iE st) (jj r.bs) (aY r.bs) [],bM e (cq r)∈st.map (·.t)
def vn(rp:List PR)(Sp:B8->Nat)(m:Nat)(b:List Nat)(k:Nat)(st:List gR):Prop:=
 ∃ns,rJ (iv rp) b=P (k,ns)/\k<=m/\lK rp ns []=P st/\(st.map (·.t)).Nodup/\A4 Sp k st/\Dh Sp k rp st
def xK(a):(iE a).map (·.1)=a.map (·.t):=by unfold iE;rw[List.zipIdx_map_fst]
variable {a b:List (Th×Nat)}
def ZF(h:a.map (·.1)=b.map (·.1)):∀(K:List du)(e:bJ),gn a K e=gn b K e
 | [],e=>rfl
 |K::r,e=>by
  have c:∀M:List (Th×Nat),gn M (K::r) e=(M.map (·.1)).flatMap λt=>match dZ e K t with|some L=>gn M r L|none=>[]:=λM=>by
   rw[gn,yl];rfl
  rw[c,c,h]
  congr 1
  funext t
  cases dZ e K t with
  |none=>rfl
  |some L=>exact ZF h r L
def xA{t}:(bK a t).isSome=Bt↔t∈a.map (·.1):=by
 constructor
 .intro h;obtain⟨n,K⟩:=tq.1 h;exact aU.2 ⟨_,rU K,rfl⟩
 intro h
 cases K:bK a t with
 |some n=>rfl
 |none=>obtain⟨p,b,e⟩:=aU.1 h;exact absurd (show(t,p.2)∈a by rw[<-e];exact b) (vQ K _)
def akM(h:a.map (·.1)=b.map (·.1))(K L e):jn a K L e=jn b K L e:=by
 unfold jn;rw[ZF h]
 congr 1
 funext x
 have:∀y,(bK a y).isSome=(bK b y).isSome:=λy=>by
  rw[oX,xA,xA,h]
 unfold nJ;simp only[this]
end
end Go.Proofs.YtldkpahaocjdpaaGreat
