/-
  WaysTo: the iterator over the ways by which a rule's head is a thing.
-/
import Derived.Test.YtldkpahaocjdpaaGreatA18
set_option maxHeartbeats 16000000
set_option maxRecDepth 1000000
namespace Go.Proofs.YtldkpahaocjdpaaGreat
open Go.Value renaming slice->U,int->I,string->Y,bool->Vb,pointer->Vp,agg->Va
open Go.IntKind renaming i64->J
open Go.Ending renaming returned->Vr
open Go.Obj renaming cells->Vc
open _root_.Option renaming none->G,some->P
open _root_.Bool renaming true->Bt,false->Bf
open Go.Addr renaming mk->C
open _root_.List renaming length->Z
open Go.World renaming heap->X,alloc->Al,setCell->Sc,cell?->Ce,ownsRow->Ow
open _root_.Array renaming size->F
open Go.Proofs.Tryz
set_option linter.defProp false
section
section
open Go.RowKit Go.Maps
attribute [local go_sem ↓] tW tX wj tF pB qa p9 pY
attribute [local go_sem] ux xJ sT sR
def acV(No:Nat->Prop)(w:W8)(mb:Nat)(pd:B8)(hv bv:V9)(base:Nat)(ls:List (dd×V9))(K:List (Th×Nat))(r:Option bJ)(en:Ending)(w':W8):Prop:=
 (r=G->en=Vr (.func (.func 218) #[] #[])/\Below (F (X w)) w w')/\∀s,r=P s->Mn No w mb pd hv bv base ls K s en w'
def aok(z w p d b o B c i K t)(h:xd z w p o B c i K)(u:Ow w c 191 1 o (Z b) (b.map kx))(h4:Z b<=4):Calls prog 165 #[Va #[Y d,o,B],cP t,.map (P p)] w (acV z w p d o B c i K (dZ [] ⟨d,b⟩ t)):=by
 obtain⟨m,n,rfl⟩:=aF u;obtain⟨A,D,rfl⟩:=aF h.l.row;have a:=H h;have L:=H u;clear h u;obtain⟨M,h⟩:∃M,M=(bP t).toArray:=⟨_,rfl⟩;have u:=H h;unfold cP;rw[<-h];clear h;go_in;go_upto_region 1 with fail;generalize h:World.alloc (World.alloc w _) _=l;have s:Below (F (X w)) w l:=by rw[<-h];exact((aZ (F (X w)) w).alloc L9 _).alloc oS _
 have R:l.heap[F (X w)]?=P (Vc #[Y d,U m (Z b) n,U A (Z i) D] 123):=by rw[<-h,aW _ _ _ oS];exact aG w _
 have q:TV l (F (X w)+1) t:=by rw[<-h,ag u];have:=aG (Al w (Vc #[Y d,U m (Z b) n,U A (Z i) D] 123)) (Vc (bP t).toArray 88);rw[bL]at this;exact this
 have E:F (X l)=F (X w)+1+1:=by rw[<-h];simp
 clear h;have t3:=q.load;obtain⟨r,-⟩:=aj R 0;obtain⟨x,-⟩:=aj R 1;simp only[bt,aT,bx]at r x;have S:=H (JH l c [] ⟨d,b⟩ m n t (gC L (λg e=>s.block g (L.lt g e).2)) h4 (b.map (·.2)) oT (iY.nil _) (λt f _=>fW f));have f:=H s;have y:=H R;have v:=H E;clear s R q E;generalize dZ [] ⟨d,b⟩ t=R at*;go_upto_region 2 with(go_at_call 62;refine(S).mono ?_;rintro en E⟨s,rfl⟩;have g:=H s;clear s);generalize s:World.alloc E _=q;have k:Below (F (X w)) w q:=by rw[<-s];exact(f.trans (g.mono f.size)).alloc (bf f.size g.size) _
 have N:BV q (F (X E)) (R.getD []):=by rw[<-s];exact BV.new E _
 have j:q.heap[F (X w)]?=P (Vc #[Y d,U m (Z b) n,U A (Z i) D] 123):=by have Q:=ag v;have T:=g.size;rw[<-s,aW _ _ _ O,g.block _ O];exact y
 have Q:=N.load;obtain⟨T,-⟩:=aj j 0;obtain⟨V,-⟩:=aj j 1;obtain⟨W,-⟩:=aj j 2;simp only[bt,aT,bx]at T V W;have h:=H k;clear s N j t3 r x
 cases R with
 |none=>clear Q;go_wp2;go_ret;exact⟨λ_=>⟨rfl,h⟩,λs e=>by cases e⟩
 |some s=>simp only[yp]at Q;have N:=H (abp z q p d _ _ c i K s (a.ai k));clear k;go_wp2_with(go_at_call 200;refine(N).mono ?_;rintro en w6⟨_,_,_,rfl,j,k⟩;have r:=H j;have x:=H k;clear j k);go_ret;exact⟨λe=>(by cases e),λk e=>by cases e;exact⟨_,_,_,rfl,h.trans (r.mono h.size),x⟩⟩
end
open Go.RowKit
variable {c0 c3 c4 c7 c8 c9 ed eM eN et eu dv dy eh dn cJ cF bX bY bZ b7 b8 cc cd cg ck cm cy cz cC cD cE cK cL cM cQ cR cS cT cU cV cW cX cY cZ da cN cO de dh cG dz dA dB dC dD dE dF dG dH dO dP dQ dR ei ev ew ey ez eP eQ eR eS eT eU eV eA eB dW dX dY eC eD eE eF eG eH eI eJ eW eX eY eZ e8 e9 fa fi ee dN fo fp fq ft fu fM fN fO fP fw fx fy fC fD fE fF fG fH fj fk fl fI fJ fK fL eO dV:V9}
variable {a:Exit->Act->W8->Prop}
def ao6(w e R q d o c s t)(hC:vs w e R q d o c (U s (Z c) t))(Q h j k)(hk:k<Z d)(i:∀x∈Q,Z x.e<=100/\(Z x.fr)<=100)(Cu:Z Q<=1000000)(hT:(jy d[k].1 (c.map (·.F)) (Q.map (·.W))).length<=1000000)(w1)(f:jJ w R q o (U h (Z Q) j) Q (U G 0 0) [] w1)(v:∀g b w2 u8 u9 m r p l n y u z A B D E K L M N S T V W u50 u51 u52 u53 u54 u55 u56 u57 u58 u59 u60 u61 u62 u63 u64 u65 u66 u67 u68 u69 u70 u71 u72 u73 u74 u75 u76 u77 u78 u79 u80 u81,jJ w R q o (U h (Z Q) j) Q g b w2->b.map (·.W)=jy d[k].1 (c.map (·.F)) (Q.map (·.W))->a (.exit 2) ⟨List.toArray (c0::U s (Z c) t::Vp (P (C (F (X w)) 0 G))::c3::c4::U h (Z Q) j::I J k::g::u8::u9::m::r::p::et::eu::dv::dy::eh::dn::cJ::cF::bX::bY::bZ::b7::b8::cc::cd::cg::ck::cm::cy::cz::l::n::y::u::z::A::B::D::E::K::L::M::N::S::T::V::W::u50::u51::u52::u53::u54::u55::u56::u57::u58::u59::u60::u61::u62::u63::u64::u65::u66::u67::u68::u69::u70::u71::u72::u73::u74::u75::u76::u77::u78::u79::u80::u81::dW::dX::dY::eC::eD::eE::eF::eG::eH::eI::eJ::eW::eX::eY::eZ::e8::e9::fa::fi::ee::dN::fo::fp::fq::ft::fu::fM::fN::fO::fP::fw::fx::fy::fC::fD::fE::fF::fG::fH::fj::fk::fl::fI::fJ::fK::fL::eO::dV::[]),[]⟩ w2):Code.wp prog (Code.loop (F7 1)) a ⟨List.toArray (c0::U s (Z c) t::Vp (P (C (F (X w)) 0 G))::c3::c4::U h (Z Q) j::I J k::U G 0 0::I J (0:Nat)::c9::ed::eM::eN::et::eu::dv::dy::eh::dn::cJ::cF::bX::bY::bZ::b7::b8::cc::cd::cg::ck::cm::cy::cz::cC::cD::cE::cK::cL::cM::cQ::cR::cS::cT::cU::cV::cW::cX::cY::cZ::da::cN::cO::de::dh::cG::dz::dA::dB::dC::dD::dE::dF::dG::dH::dO::dP::dQ::dR::ei::ev::ew::ey::ez::eP::eQ::eR::eS::eT::eU::eV::eA::eB::dW::dX::dY::eC::eD::eE::eF::eG::eH::eI::eJ::eW::eX::eY::eZ::e8::e9::fa::fi::ee::dN::fo::fp::fq::ft::fu::fM::fN::fO::fP::fw::fx::fy::fC::fD::fE::fF::fG::fH::fj::fk::fl::fI::fJ::fK::fL::eO::dV::[]),[]⟩ w1:=by
 conv=>arg 2;arg 1;whnf
 have z:=H hC;have g:=H f;have A:=H hT;have m:=H i;have B:=H v;clear hC f hT i v
 go_loopg [7,8] (Z Q) (λx v D wr=>∃(i:Nat)(b:List WG),i<=Z Q/\x=Z Q-i/\D=I J i/\jJ w R q o (U h (Z Q) j) Q v b wr/\b.map (·.W)++jy d[k].1 (c.map (·.F)) ((Q.map (·.W)).drop i)=jy d[k].1 (c.map (·.F)) (Q.map (·.W)))
 exact⟨0,[],aI _,rfl,rfl,g,oS⟩
 case round=>
  clear g;obtain⟨i,b,M,D,rfl,f,x⟩:=hrel;obtain⟨K,c7,rfl⟩:=aF f.next.row;have g:=H f;have r:=H x;clear f x
  by_cases x:i<Z Q
  .have E:(i:Int)<Z Q:=O;have f:=ao3 (a:=d[k].1) (l:=c.map (·.F)) (now:=Q.map (·.W)) (i:=i) (oU x);rw[nB]at f;have v:=(gQ (b.map (·.W)++·) f).symm.trans r;simp only[<-qT]at v;have p:(b.map (·.W)++jU d[k].1 Q[i].W (c.map (·.F)) 0).length<=1000000:=by
    have:=gQ Z v;rw[br]at this;have:=ag A;omega
   have l:=H v;have n:=H p;clear f v p r;go_wp2_with fail;refine ao7 w e R q d o c s t z Q h j k i hk x (m _ (aN x)).1 (m _ (aN x)).2 _ n _ b rfl wr g ?_;intro N v S;intros;rename_i f p;obtain⟨L,c8,rfl⟩:=aF f.next.row;have y:=H f;have u:=H (show v.map (·.W)++jy d[k].1 (c.map (·.F)) ((Q.map (·.W)).drop (i+1))=jy d[k].1 (c.map (·.F)) (Q.map (·.W)) by rw[p];exact l);clear f p l n g;go_wp2;go_roundg(Z Q-(i+1));exact⟨i+1,v,O,rfl,oN,y,u⟩;omega
  have u:=H (show b.map (·.W)=jy d[k].1 (c.map (·.F)) (Q.map (·.W)) by rw[<-ag r,gE oT];simp[jy]);clear r;go_wp2_with fail;apply B
  .exact g
  exact u
def jJ.xQ{w R c b d a v next wr}(h:jJ w R c b d a v next wr):jJ w R c b v next (U G 0 0) [] wr:=
 ⟨h.ai,h.box,h.next,⟨dm _ _ _ _,oS⟩,λg e=>by cases e⟩
variable {b c:Nat}{d:aR}
def abk{x:kR}(a:Z d.aq<=4)(n:x.1.length<=b)(m:x.2.length<=c):∀(l:List aP)(i:Nat),∀y∈jU d x l i,y.1.length<=b+4/\y.2.length<=c+1
 | [],_,y,l=>by simp[jU]at l
 |f::r,i,y,l=>by
  rw[jU,aS]at l;rcases l with l|l
  .split at l
   .rename_i e g;rw[bu.1 l];have:=O2 g;simp;omega
   simp at l
  exact abk a n m r (i+1) y l
def ao2{l n}(e:Z d.aq<=4)(h:∀x∈n,x.1.length<=b/\x.2.length<=c):∀y∈jy d l n,y.1.length<=b+4/\y.2.length<=c+1:=by intro y m;obtain⟨x,a,m⟩:=gh.1 m;exact abk e (h x a).1 (h x a).2 l 0 y m
def ZK{k}(h:k<=3):50 ^ k<=125000:=bf (Nat.pow_le_pow_right oD h) oD
def ao5(w f R q c D b s t)(y:vs w f R q c D b (U s (Z b) t))(v5 w1)(d:jJ w R q D v5 [⟨[],[],U G 0 0,U G 0 0,U G 0 0⟩] (U G 0 0) [] w1)(Q:∀k v w2 u6 u7 u8 u9 E z i u h e g n B l r m j p K u32 o A L M N S T V W u42 u43 u44 u45 u46 u47 u48 u49 u50 u51 u52 u53 u54 u55 u56 u57 u58 u59 u60 u61 u62 u63 u64 u65 u66 u67 u68 u69 u70 u71 u72 u73 u74 u75 u76 u77 u78 u79 u80 u81 u82,jJ w R q D k v (U G 0 0) [] w2->v.map (·.W)=j6 (b.map (·.F)) R.body [([],[])]->(∀x∈v,Z x.e<=100/\(Z x.fr)<=100)->Z v<=1000000->a (.exit 0) ⟨List.toArray (c0::U s (Z b) t::Vp (P (C (F (X w)) 0 G))::c3::c4::k::u6::u7::u8::u9::E::z::i::et::eu::dv::dy::eh::dn::cJ::u::h::e::g::n::B::l::r::m::j::p::K::u32::o::A::L::M::N::S::T::V::W::u42::u43::u44::u45::u46::u47::u48::u49::u50::u51::u52::u53::u54::u55::u56::u57::u58::u59::u60::u61::u62::u63::u64::u65::u66::u67::u68::u69::u70::u71::u72::u73::u74::u75::u76::u77::u78::u79::u80::u81::u82::dX::dY::eC::eD::eE::eF::eG::eH::eI::eJ::eW::eX::eY::eZ::e8::e9::fa::fi::ee::dN::fo::fp::fq::ft::fu::fM::fN::fO::fP::fw::fx::fy::fC::fD::fE::fF::fG::fH::fj::fk::fl::fI::fJ::fK::fL::eO::dV::[]),[]⟩ w2):Code.wp prog (Code.loop (F7 0)) a ⟨List.toArray (c0::U s (Z b) t::Vp (P (C (F (X w)) 0 G))::c3::c4::v5::I J (0:Nat)::c7::c8::c9::ed::eM::eN::et::eu::dv::dy::eh::dn::cJ::cF::bX::bY::bZ::b7::b8::cc::cd::cg::ck::cm::cy::cz::cC::cD::cE::cK::cL::cM::cQ::cR::cS::cT::cU::cV::cW::cX::cY::cZ::da::cN::cO::de::dh::cG::dz::dA::dB::dC::dD::dE::dF::dG::dH::dO::dP::dQ::dR::ei::ev::ew::ey::ez::eP::eQ::eR::eS::eT::eU::eV::eA::eB::dW::dX::dY::eC::eD::eE::eF::eG::eH::eI::eJ::eW::eX::eY::eZ::e8::e9::fa::fi::ee::dN::fo::fp::fq::ft::fu::fM::fN::fO::fP::fw::fx::fy::fC::fD::fE::fF::fG::fH::fj::fk::fl::fI::fJ::fK::fL::eO::dV::[]),[]⟩ w1:=by
 obtain⟨S,E,rfl⟩:=aF y.cH.bo
 conv=>arg 2;arg 1;whnf
 have kV:=y.body;have v:=y.cH.eq;have k:Z R.body=Z c:=by rw[v];simp
 have z:=H y;have i:=H d;have N:=H Q;have u:=H v;have h:=H k;clear y d Q v k
 go_loopg [5,6] (Z c) (λe v g wr=>∃(k:Nat)(Q:List WG),k<=Z c/\e=Z c-k/\g=I J k/\jJ w R q (U S (Z c) E) v Q (U G 0 0) [] wr/\j6 (b.map (·.F)) (R.body.drop k) (Q.map (·.W))=j6 (b.map (·.F)) R.body [([],[])]/\(∀x∈Q.map (·.W),x.1.length<=4*k/\x.2.length<=k)/\(Z Q)<=50 ^ k)
 exact⟨0,_,aI _,rfl,rfl,i,rfl,by simp[WG.W],oS⟩
 case round=>
  clear i;obtain⟨k,Q,hk,Wt,rfl,d,v,g,e⟩:=hrel;obtain⟨T,V,rfl⟩:=aF d.now.row;have K:=ZK (k:=k) O;have n:∀x∈Q,Z x.e<=100/\(Z x.fr)<=100:=λx B=>by
   have:=g x.W (fW B);simp only[WG.W]at this;omega
  have l:=H n;obtain⟨p5,-⟩:=aj d.box 5;have i:=H d;have r:=H v;have m:=H g;have j:=H e;have p:Z Q<=1000000:=O
  clear v g e n K
  by_cases v:k<Z c
  .have kf:(k:Int)<Z c:=O;have y:=ag z;have n:=aQ y.cH.bo d.ai (λg e=>(y.cH.bo.lt g e).2);obtain⟨gb,cb,K,-,qF,Ct,hmb,L,A,M,y3,y4⟩:=qx n k v;injection K with o q2 e
   subst o e;have o:R.body[k]'(by rw[ag h];exact v)=c[k].1:=by have:=ag u;simp only[this,nB]
   have g:=ao4 (l:=b.map (·.F)) (b:=R.body) (k:=k) (now:=Q.map (·.W)) (by rw[ag h];exact v);rw[o]at g;have W:c[k].1.aq.length<=4:=y.aq _ (by rw[y.cH.eq];exact fW (aN v));have e:=H (g.symm.trans r);clear y n d g o r L A y3 y4
   cases y:c[k].1.no with
   |true=>rw[y]at M;have g:=H (show j6 (b.map (·.F)) (R.body.drop (k+1)) (Q.map (·.W))=j6 (b.map (·.F)) R.body [([],[])] by have:=ag e;rw[y]at this;exact this);clear e y;go_wp2;go_roundg(Z c-(k+1));exact⟨k+1,Q,O,rfl,oN,i,g,λx B=>by have:=ag m x B;omega,bf j (Nat.pow_le_pow_right oD O)⟩;omega
   |false=>
    rw[y]at M;have g:=H (show j6 (b.map (·.F)) (R.body.drop (k+1)) (jy c[k].1 (b.map (·.F)) (Q.map (·.W)))=j6 (b.map (·.F)) R.body [([],[])] by have:=ag e;rw[y]at this;exact this);have x:(jy c[k].1 (b.map (·.F)) (Q.map (·.W))).length<=50 ^ (k+1):=by have L:=abm c[k].1 (b.map (·.F)) (Q.map (·.W));rw[bF,bF]at L;have n:=Nat.mul_le_mul j z.dc;rw[L7];omega
    have L:(jy c[k].1 (b.map (·.F)) (Q.map (·.W))).length<=1000000:=by have:=ZK (k:=k+1) O;omega
    have n:=H (ao2 (l:=b.map (·.F)) W m);have B:=H x;clear e y x;go_wp2_with fail;refine ao6 w f R q c _ b s t z Q T V k v l p L wr i ?_;intro v8 x w8;intros;rename_i y o;obtain⟨a8,c8,rfl⟩:=aF y.next.row;have A:=H y.xQ;have e:=H o;clear y o i l m j L;go_wp2;go_roundg(Z c-(k+1));exact⟨k+1,x,O,rfl,oN,A,by rw[ag e];exact g,by rw[ag e];intro y L;have:=ag n y L;omega,by rw[<-bF (f:=(·.W)),ag e];exact B⟩;omega
  have e:=H (show Q.map (·.W)=j6 (b.map (·.F)) R.body [([],[])] by rw[<-ag r,gE (by rw[ag h];omega)];rfl);clear r d;go_wp2_with fail;apply N
  .exact i
  .exact e
  .exact l
  exact p
variable {c6:V9}
def adE{α:Type}{l:List α}{j}(a:j<Z l)(f):(l.take (j+1)).all f=((l.take j).all f&&f l[j]):=by rw[jr a,List.all_append];simp only[List.all_cons,List.all_nil,Bool.and_true]
structure M5(wr:W8)(B:aR)(b:Nat)(v:V9)(wc:W8):Prop where
 ai:Below (F (X wr)) wr wc
 blk:wc.heap[b]?=P (Vc #[Y B.ax,v,Vb Bf,I J 0,I J 0] 243)
 row:Ow wc (F (X wr)) 317 3 v (Z B.aq) (cellsOf B.aq)
variable {e:aR}{a f g h i:V9}{b j:W8}
def M5.qw{W}(c:Below (F (X b)) b W)(wr:Below (F (X W)) W j)(d:Ow j (F (X W)) 317 3 a (Z e.aq) (cellsOf e.aq)):M5 b e (F (X j)) a (Al j (Vc #[Y e.ax,a,Vb Bf,I J 0,I J 0] 243)):=by have B:=c.size;have f:=wr.size;exact⟨(c.trans (wr.mono B)).alloc O _,aG j _,aX (d.alloc _) O⟩
variable {d:Nat}
def M5.ahead{W m}(l:Below (F (X b)) b W)(s:F (X b)<=d)(v:W.heap[d]?=P (Vc #[f,m,i,h,g] 243))(k:Below (F (X W)) W j)(t:Ow j (F (X W)) 317 3 a (Z e.aq) (cellsOf e.aq)):M5 b e d a (Sc (Sc (Sc (Sc (Sc j (C d 0 G) (Y e.ax)) (C d 1 G) a) (C d 2 G) (Vb Bf)) (C d 3 G) (I J 0)) (C d 4 G) (I J 0)):=by
 have u:=l.size;have w:=(aM.1 v).1;have r:=(k.block d w).trans v;have n:(Sc j (C d 0 G) (Y e.ax)).heap[d]?=P (Vc #[Y e.ax,m,i,h,g] 243):=by rw[j9 _ _ _ _ _ _ r];rfl
 have o:(Sc (Sc j (C d 0 G) (Y e.ax)) (C d 1 G) a).heap[d]?=P (Vc #[Y e.ax,a,i,h,g] 243):=by rw[j9 _ _ _ _ _ _ n];rfl
 have p:(Sc (Sc (Sc j (C d 0 G) (Y e.ax)) (C d 1 G) a) (C d 2 G) (Vb Bf)).heap[d]?=P (Vc #[Y e.ax,a,Vb Bf,h,g] 243):=by rw[j9 _ _ _ _ _ _ o];rfl
 have q:(Sc (Sc (Sc (Sc j (C d 0 G) (Y e.ax)) (C d 1 G) a) (C d 2 G) (Vb Bf)) (C d 3 G) (I J 0)).heap[d]?=P (Vc #[Y e.ax,a,Vb Bf,I J 0,g] 243):=by rw[j9 _ _ _ _ _ _ p];rfl
 have B:∀wr,F (X b)<=((C d wr G):Addr).block:=λ_=>s
 have c:∀wr,((C d wr G):Addr).block<F (X W):=λ_=>w
 refine⟨(((((l.trans (k.mono u)).setCell (B 0) _).setCell (B 1) _).setCell (B 2) _).setCell (B 3) _).setCell (B 4) _,by rw[j9 _ _ _ _ _ _ q];rfl,?_⟩;exact aX (fh (fh (fh (fh (fh t (c 0) _) (c 1) _) (c 2) _) (c 3) _) (c 4) _) O
def JV{w j}(c:¬w=d):Ce (Sc (Sc (Sc (Sc (Sc b (C d 0 G) a) (C d 1 G) g) (C d 2 G) h) (C d 3 G) f) (C d 4 G) i) (C w j G)=Ce b (C w j G):=by
 have e:∀(b:W8)(k:Nat)(u:V9),Ce (Sc b (C d k G) u) (C w j G)=Ce b (C w j G):=λb k u=>j8 (cx _ (C d k G) _ w (oU c))
 rw[e,e,e,e,e]
variable {c:Exit->Act->W8->Prop}
def ao9(w D R hv d bv f al cl)(p:vs w D R hv d bv f (U al (Z f) cl))(Q V cn i)(hi:i<Z Q)(b:∀a∈R.body,(fR (bk Q[i].e a)).length<=1000000000)(M q w1)(l:jJ w R hv bv (U V (Z Q) cn) Q M q w1)(v:∀w2 u16 r s t u91 u92 u93 u94 u95 u96 u97 u98 u99 K k o u T E e g n S N L h j x y z B A m W,jJ w R hv bv (U V (Z Q) cn) Q M q w2->c (.exit 8) ⟨List.toArray (c0::U al (Z f) cl::Vp (P (C (F (X w)) 0 G))::c3::c4::U V (Z Q) cn::c6::c7::c8::c9::ed::eM::eN::et::I J i::Vb (R.body.all (pP (f.map (·.F)) Q[i].e))::u16::r::dn::cJ::cF::bX::bY::bZ::b7::b8::cc::cd::cg::ck::cm::cy::cz::cC::cD::cE::cK::cL::cM::cQ::cR::cS::cT::cU::cV::cW::cX::cY::cZ::da::cN::cO::de::dh::cG::dz::dA::dB::dC::dD::dE::dF::dG::dH::dO::dP::dQ::dR::ei::ev::ew::ey::ez::eP::eQ::eR::eS::eT::eU::eV::eA::eB::dW::dX::dY::eC::eD::eE::eF::s::t::u91::u92::u93::u94::u95::u96::u97::u98::u99::K::k::o::u::T::E::e::g::n::S::N::L::h::j::x::y::z::B::A::m::W::fj::fk::fl::fI::fJ::fK::fL::eO::dV::[]),[]⟩ w2):Code.wp prog (Code.loop (F7 4)) c ⟨List.toArray (c0::U al (Z f) cl::Vp (P (C (F (X w)) 0 G))::c3::c4::U V (Z Q) cn::c6::c7::c8::c9::ed::eM::eN::et::I J i::Vb Bt::I J (0:Nat)::eh::dn::cJ::cF::bX::bY::bZ::b7::b8::cc::cd::cg::ck::cm::cy::cz::cC::cD::cE::cK::cL::cM::cQ::cR::cS::cT::cU::cV::cW::cX::cY::cZ::da::cN::cO::de::dh::cG::dz::dA::dB::dC::dD::dE::dF::dG::dH::dO::dP::dQ::dR::ei::ev::ew::ey::ez::eP::eQ::eR::eS::eT::eU::eV::eA::eB::dW::dX::dY::eC::eD::eE::eF::eG::eH::eI::eJ::eW::eX::eY::eZ::e8::e9::fa::fi::ee::dN::fo::fp::fq::ft::fu::fM::fN::fO::fP::fw::fx::fy::fC::fD::fE::fF::fG::fH::fj::fk::fl::fI::fJ::fK::fL::eO::dV::[]),[]⟩ w1:=by
 obtain⟨ab,K,rfl⟩:=aF p.cH.bo
 conv=>arg 2;arg 1;whnf
 have kV:=p.body;have k:=p.cH.eq;have o:Z R.body=Z d:=by rw[k];simp
 have HC:=H p;have u:=H l;have HX:=H v;have T:=H k;have E:=H o;have lL:=H b;clear p l v k o b
 go_loopg [15,16] (Z d) (λb v o wr=>∃(k:Nat),k<=Z d/\b=Z d-k/\v=Vb ((R.body.take k).all (pP (f.map (·.F)) Q[i].e))/\o=I J k/\jJ w R hv (U ab (Z d) K) (U V (Z Q) cn) Q M q wr)
 exact⟨0,aI _,rfl,rfl,rfl,u⟩
 case round=>
  clear u;obtain⟨k,_,_,rfl,rfl,l⟩:=hrel;obtain⟨p5,-⟩:=aj l.box 5;simp only[bt,aT,bx]at p5
  by_cases o:k<Z d
  .have kf:(k:Int)<Z d:=O;have p:=ag HC;have b:=l.ai.size;have b1:=l.lt;have yR:=aQ p.cH.bo l.ai (λg e=>(p.cH.bo.lt g e).2);obtain⟨a,_,zb,-,n,_,_,y0,y1,S,y3,y4⟩:=qx yR k o;injection zb with N q2 L
   subst N L;have hR:R.body[k]'(by rw[ag E];exact o)=d[k].1:=by have:=ag T;simp only[this,nB]
   have L:=adE (l:=R.body) (j:=k) (by rw[ag E];exact o) (pP (f.map (·.F)) Q[i].e);rw[hR]at L;have h:d[k].1∈R.body:=(by rw[ag T];exact fW (aN o));have h4:=p.aq _ h;have hlen:=ag lL _ h;obtain⟨g5,_,sJ,-,pM,_,_,x0,x1,x2⟩:=F6 l.now.row hi;injection sJ with j i2 x
   subst j x;have j:=l.now.aK _ (aN hi);obtain⟨x,z,y,B,e1,e2⟩:=j.jM.shape;have A:=p.cH.bl _ (aN o);obtain⟨aa,ca,e3⟩:=aF A;rw[e1]at x0;rw[e2]at x1;rw[e3]at y1;have m:∀W,Below (F (X wr)) wr W->Calls prog 192 #[Va #[U x Q[i].e.length z,U y Q[i].e.length B],Va #[Y d[k].1.ax,U aa d[k].1.aq.length ca,Vb d[k].1.no,I J d[k].1.aC,I J d[k].1.aO]] W (D4 W Q[i].e d[k].1):=λW s=>by
    have r:=l.ai.trans (s.mono b);have N:=j.jM.ai s;rw[e1,e2]at N;rw[e3]at A;exact FV W 0 Q[i].e d[k].1 x y aa z B ca ⟨aX N.ns (aI _),aX N.ts (aI _),N.nil⟩ (aX (aQ A r (λg e=>(A.lt g e).2)) (aI _)) O
   have s:=H m;have u:=H l;have t:=H L;have tK:(i:Int)<Z Q:=O;have d5:¬g5=F (X wr):=O;have db:¬a=F (X wr):=O;have dw:¬(F (X w))=F (X wr):=O;clear p l yR j A m L hR h e1 e2 e3 b x2;generalize d[k].1=A at*;generalize(R.body.take k).all (pP (f.map (·.F)) Q[i].e)=ok at*;generalize Q[i].e=NE at*
   cases p:A.no with
   |false=>rw[p]at S;have m:=H (show(R.body.take (k+1)).all (pP (f.map (·.F)) NE)=ok by rw[ag t,pP,p];simp);clear t s y0 y1 y3 y4 x0 x1 p;go_wp2;go_roundg(Z d-(k+1));exact⟨k+1,O,rfl,by rw[ag m],oN,u⟩;omega
   |true=>
    have m:=H (show(R.body.take (k+1)).all (pP (f.map (·.F)) NE)=(ok&&decide (dp (f.map (·.F)) (bI (bk NE A))<0)) by rw[ag t,pP,p];simp)
    have HK:Hid (∀W h:W8,Below (F (X wr)) wr W->Below (F (X W)) W h->Ce h (C g5 (i*3) G)=P (U x (Z NE) z)/\Ce h (C g5 (i*3+1) G)=P (U y (Z NE) B)/\Ce h (C (F (X w)) 5 G)=P (U (P (C a 0 G)) (Z d) K)/\Ce h (C a (k*5) G)=P (Y A.ax)/\Ce h (C a (k*5+1) G)=P (U aa (Z A.aq) ca)/\Ce h (C a (k*5+2) G)=P (Vb Bt)/\Ce h (C a (k*5+3) G)=P (I J A.aC)/\Ce h (C a (k*5+4) G)=P (I J A.aO)):=H (λW h b L=>by
     have r:=b.trans (L.mono b.size);rw[p]at S
     exact⟨(r.cell (oU pM)).trans x0,(r.cell (oU pM)).trans x1,(r.cell (oU b1)).trans p5,(r.cell (oU n)).trans y0,(r.cell (oU n)).trans y1,(r.cell (oU n)).trans S,(r.cell (oU n)).trans y3,(r.cell (oU n)).trans y4⟩)
    rw[p]at S s;clear t;have Dr:=H p;clear p;go_upto_region 29 with fail
    go_cut [17] from 89 to 120 (λp wc=>∃b v,p=Vp (P (C b 0 G))/\M5 wr (bk NE A) b v wc)
    case first=>
     go_region_held3 (λh=>Ce h (C g5 (i*3) G)=P (U x (Z NE) z)/\Ce h (C g5 (i*3+1) G)=P (U y (Z NE) B)/\Ce h (C (F (X w)) 5 G)=P (U (P (C a 0 G)) (Z d) K)/\Ce h (C a (k*5) G)=P (Y A.ax)/\Ce h (C a (k*5+1) G)=P (U aa (Z A.aq) ca)/\Ce h (C a (k*5+2) G)=P (Vb Bt)/\Ce h (C a (k*5+3) G)=P (I J A.aC)/\Ce h (C a (k*5+4) G)=P (I J A.aO)) (first|go_keep|(refine⟨?_,?_,?_,?_,?_,?_,?_,?_⟩<;>(refine(JV ?_).trans ?_<;>assumption))) ((go_at_call 192;refine(s _ oB).mono ?_;rintro e w2⟨v,rfl,W,p⟩;obtain⟨L,Ur,rfl⟩:=aF W;obtain⟨_,_,_,_,_,_,_,_⟩:=ag HK _ _ oB p;have t:=λ(j:Nat) h=>p.cell (p:=(C (F (X wr)) j G)) h;have yU:=λ(j:Nat) h=>p.frozen (p:=(C (F (X wr)) j G)) h;have h:=H W;clear W))
     all_goals
      go_wp2;go_meet
      case rel=>first|exact⟨_,_,rfl,M5.qw (W:=wr.drew) B9.drew p h⟩|exact⟨_,_,rfl,M5.ahead (W:=(Al wr (Vc #[Y ⟨#[]⟩,U G 0 0,Vb Bf,I J 0,I J 0] 243)).drew) oA.drew L9 (aG wr _) p h⟩
    case rest=>
     obtain⟨b,v,rfl,h⟩:=hcut;obtain⟨L,Ur,rfl⟩:=aF h.row;have IZ:=h.ai.size;have p:=u.zm h.ai;obtain⟨r0,-⟩:=aj h.blk 0;obtain⟨r1,-⟩:=aj h.blk 1;obtain⟨r2,-⟩:=aj h.blk 2;obtain⟨r3,-⟩:=aj h.blk 3;obtain⟨r4,-⟩:=aj h.blk 4;have j:=H p
     cases ok with
     |false=>clear h p u s HK x0 x1 y0 y1 S y3 y4 p5;go_wp2;go_roundg(Z d-(k+1));exact⟨k+1,O,rfl,by rw[ag m];rfl,oN,j⟩;omega
     |true=>
      have t:=H (uP wc (F (X wr)) (bk NE A) L Ur Bf 0 0 h.row hlen);have sE:=aQ HC.bV.row p.ai (λg e=>(HC.bV.row.lt g e).2);have W:=H sE;clear h p u s HK x0 x1 y0 y1 S y3 y4 p5 sE;go_wp2_with fail;refine(t).mono ?_;rintro e w3⟨s,rfl,hs,p⟩;have h:s=bI (bk NE A):=by
       cases s
       simp only[bI,<-hs,Array.toArray_toList]
      subst h;have h:=H (j.zm p);have S:=H (yK w3 D al cl f (bI (bk NE A)) (aQ W p (λg e=>(W.lt g e).2)));clear hs p r0 r1 r2 r3 r4 t j W;generalize bI (bk NE A)=j at*;generalize dp (f.map (·.F)) j=W at*;go_wp2_with fail;refine(S).mono ?_;rintro e t⟨rfl,rfl⟩;clear S
      by_cases S:W<0
      .go_wp2;go_roundg(Z d-(k+1));exact⟨k+1,O,rfl,by rw[ag m];simp[S],oN,h⟩;omega
      go_wp2;go_roundg(Z d-(k+1));exact⟨k+1,O,rfl,by rw[ag m];simp,oN,h⟩;omega
  have u:=H l;have a:k=Z d:=O
  have b:=H (show(R.body.take k).all (pP (f.map (·.F)) Q[i].e)=R.body.all (pP (f.map (·.F)) Q[i].e) by rw[a,<-ag E,vd]);rw[ag b];clear l;go_wp2_with fail;apply HX;exact u
def sh(R:bg)(l:List aP)(x:kR):Bool:=R.body.all (pP l x.1)
def ao8(w h R y bs t d al cl)(hC:vs w h R y bs t d (U al (Z d) cl))(b q r)(Cu:Z b<=1000000)(e:∀x∈b,∀a∈R.body,(fR (bk x.e a)).length<=1000000000)(w1)(f:jJ w R y t (U q (Z b) r) b (U G 0 0) [] w1)(v:∀i Q w2 u14 u15 u16 u17 u83 u84 u85 u86 u87 u88 u89 u90 u91 u92 u93 u94 u95 u96 u97 u98 u99 n s p m z j g o u l k A B D E K L M N S T V W u123 u124 u125 u126 u127 u128,jJ w R y t (U q (Z b) r) b i Q w2->Q.map (·.W)=(b.map (·.W)).filter (sh R (d.map (·.F)))->(∀x∈Q,x∈b)->c (.exit 6) ⟨List.toArray (c0::U al (Z d) cl::Vp (P (C (F (X w)) 0 G))::c3::c4::U q (Z b) r::c6::c7::c8::c9::ed::eM::eN::i::u14::u15::u16::u17::dn::cJ::cF::bX::bY::bZ::b7::b8::cc::cd::cg::ck::cm::cy::cz::cC::cD::cE::cK::cL::cM::cQ::cR::cS::cT::cU::cV::cW::cX::cY::cZ::da::cN::cO::de::dh::cG::dz::dA::dB::dC::dD::dE::dF::dG::dH::dO::dP::dQ::dR::ei::ev::ew::ey::ez::eP::eQ::eR::eS::eT::eU::eV::eA::eB::dW::u83::u84::u85::u86::u87::u88::u89::u90::u91::u92::u93::u94::u95::u96::u97::u98::u99::n::s::p::m::z::j::g::o::u::l::k::A::B::D::E::K::L::M::N::S::T::V::W::u123::u124::u125::u126::u127::u128::dV::[]),[]⟩ w2):Code.wp prog (Code.loop (F7 3)) c ⟨List.toArray (c0::U al (Z d) cl::Vp (P (C (F (X w)) 0 G))::c3::c4::U q (Z b) r::c6::c7::c8::c9::ed::eM::eN::U G 0 0::I J (0:Nat)::dv::dy::eh::dn::cJ::cF::bX::bY::bZ::b7::b8::cc::cd::cg::ck::cm::cy::cz::cC::cD::cE::cK::cL::cM::cQ::cR::cS::cT::cU::cV::cW::cX::cY::cZ::da::cN::cO::de::dh::cG::dz::dA::dB::dC::dD::dE::dF::dG::dH::dO::dP::dQ::dR::ei::ev::ew::ey::ez::eP::eQ::eR::eS::eT::eU::eV::eA::eB::dW::dX::dY::eC::eD::eE::eF::eG::eH::eI::eJ::eW::eX::eY::eZ::e8::e9::fa::fi::ee::dN::fo::fp::fq::ft::fu::fM::fN::fO::fP::fw::fx::fy::fC::fD::fE::fF::fG::fH::fj::fk::fl::fI::fJ::fK::fL::eO::dV::[]),[]⟩ w1:=by
 conv=>arg 2;arg 1;whnf
 have HC:=H hC;have n:=H f;have HX:=H v;have M:=H e;obtain⟨iw,NV,vK,kW,qH⟩:=info_parts XT;clear hC f v e
 go_loopg [13,14] (Z b) (λe v N wr=>∃(i:Nat)(Q:List WG),i<=Z b/\e=Z b-i/\N=I J i/\jJ w R y t (U q (Z b) r) b v Q wr/\Q.map (·.W)++((b.map (·.W)).drop i).filter (sh R (d.map (·.F)))=(b.map (·.W)).filter (sh R (d.map (·.F)))/\(∀x∈Q,x∈b)/\(Z Q)<=i)
 exact⟨0,[],aI _,rfl,rfl,n,oS,oS,oS⟩
 case round=>
  clear n;obtain⟨i,Q,hi,hgi,rfl,f,e,v,IU⟩:=hrel;obtain⟨N,c7,rfl⟩:=aF f.next.row;have n:=H f;have A:=H e;have B:=H v;clear f e v
  by_cases e:i<Z b
  .have tK:(i:Int)<Z b:=O;have v:((b.map (·.W)).drop i).filter (sh R (d.map (·.F)))=(if sh R (d.map (·.F)) b[i].W then [b[i].W] else [])++((b.map (·.W)).drop (i+1)).filter (sh R (d.map (·.F))):=by
    rw[dM (oU e),tf,nB]
    split<;>simp
   have f:=H ((gQ (Q.map (·.W)++·) v).symm.trans A);clear v A;go_wp2_with fail;refine ao9 w h R y bs t d al cl HC b q r i e (M _ (aN e)) _ Q wr n ?_;intro K;intros;rename_i v;have s:=H v;have p:R.body.all (pP (d.map (·.F)) b[i].e)=sh R (d.map (·.F)) b[i].W:=rfl;rw[p]
   cases D:sh R (d.map (·.F)) b[i].W with
   |false=>have m:=H (show Q.map (·.W)++((b.map (·.W)).drop (i+1)).filter (sh R (d.map (·.F)))=(b.map (·.W)).filter (sh R (d.map (·.F))) by have:=ag f;rw[D]at this;simpa using this);clear p v f n D;go_wp2;go_roundg(Z b-(i+1));exact⟨i+1,Q,O,rfl,oN,s,m,B,O⟩;omega
   |true=>
    have m:=H (show(Q++[b[i]]).map (·.W)++((b.map (·.W)).drop (i+1)).filter (sh R (d.map (·.F)))=(b.map (·.W)).filter (sh R (d.map (·.F))) by have:=ag f;rw[D]at this;simpa using this);obtain⟨g5,c5,sJ,-,pM,hn5,Cr,x0,x1,x2⟩:=F6 v.now.row e;injection sJ with a i2 S
    subst a S;have a:=v.now.aK _ (aN e);obtain⟨S,V,T,W,e1,e2⟩:=a.jM.shape;obtain⟨af,cf,e3⟩:=aF a.fr
    have L:=H (show ∀x∈Q++[b[i]],x∈b from λx z=>by
     rcases aS.1 z with z|z
     .exact B x z
     rw[bu.1 z];exact aN e)
    have j:=λ(E:W8)(g o:Nat)(hg:(Al K (Vc #[b[i].nv,b[i].tv,b[i].fv] 325)).grownBy E (U N (Z Q) c7).ownBlock)(u:Ow E (F (X w)+1) 325 3 (U (P (C g 0 G)) (Z Q+1) o) (Z Q+1) (Q.flatMap WG.cells++[b[i].nv,b[i].tv,b[i].fv]))(yQ:(U N (Z Q) c7).ownBlock=P g\/g=(Al K (Vc #[b[i].nv,b[i].tv,b[i].fv] 325)).heap.size)=>jJ.add v a ((ak.refl [] _).alloc _) hg u yQ
    have l:=v.next.row;have yV:=v.lt;have x:=H j;have HR:=H (l.alloc (Vc #[b[i].nv,b[i].tv,b[i].fv] 325));have k:=H (World.news_of_block (aG K (Vc #[b[i].nv,b[i].tv,b[i].fv] 325)));rw[e1,e2,e3]at x HR k;rw[e1]at x0;rw[e2]at x1;rw[e3]at x2;clear p v f n D s a j l e1 e2 e3 B;generalize b[i].e.length=f at*;generalize b[i].fr.length=v at*;go_wp2_with(at_builtin;go_must (refine wpList_append_lies _ rfl _ _ _ rfl (F (X w)+1) 325 iw (Va #[U G 0 0,U G 0 0,U G 0 0]) 3 72 underlying322 NV vK kW qH rfl oD (U N (Z Q) c7) (Z Q) _ rfl HR (C (F (X K)) 0 G) 1 1 [U S f V,U T f W,U af v cf] rfl rfl k (by simp[Value.oneCell']) oD oM O oT _ rfl ?_;intro g o E l s j D));have a:=H (x E g o s l j);go_roundg(Z b-(i+1));exact⟨i+1,Q++[b[i]],O,rfl,oN,a,m,L,by rw[br,sq];omega⟩;omega
  have a:=H (show Q.map (·.W)=(b.map (·.W)).filter (sh R (d.map (·.F))) by rw[<-ag A,gE oT];simp);clear A;go_wp2_with fail;apply HX
  .exact n
  .exact a
  exact B
structure ky(w:W8)(a:O8)(c:Nat)(bs:List Nat):Prop where
 cap:Z bs<=c
 max:c<=maxLen
 uz:∀x∈bs,x<256
 aC:0<Z bs->∃g o,a=P (C g o G)/\g<F (X w)/\∀(j:Nat)(h:j<Z bs),Ce w (C g (o+j) G)=P (I .u8 (bs[j]:Nat))
variable {b:List Nat}{c:Nat}{a:W8}
def ky.ai{d w}(h:ky a w c b)(k:Below (F (X a)) a d):ky d w c b:=
 ⟨h.cap,h.max,h.uz,λj=>let ⟨g,o,e,hg,hc⟩:=h.aC j;⟨g,o,e,iz hg k.size,λj f=>(k.cell (p:=(C g (o+j) G)) hg).trans (hc j f)⟩⟩
def ky.drop{g o}(h:ky a (P (C g o G)) c b)(n):ky a (P (C g (o+n) G)) (c-n) (b.drop n):=by
 refine⟨by rw[so];have:=h.cap;omega,by have:=h.max;omega,λx e=>h.uz x (List.mem_of_mem_drop e),λe=>?_⟩;rw[so]at e;obtain⟨_,_,e,d,w⟩:=h.aC O;injection e with e
 injection e with j x
 subst j x;refine⟨g,o+n,rfl,d,λj x=>?_⟩;rw[so]at x;have:=w (n+j) O;rw[List.getElem_drop,show o+n+j=o+(n+j) by omega];exact this
def ky.none(w c)(b:c<=maxLen):ky a w c []:=⟨aI _,b,oS,λh=>by simp at h⟩
end
section
def kM(pos:List Nat):Nat->List Nat->Option (List (Nat×List Nat))
 | 0,[]=>P []
 | 0,_::_=>G
 |_+1,[]=>G
 |n+1,r::q=>match pos[r]? with
  |none=>G
  |some m=>if (Z q)<m then G else match kM pos n (q.drop m) with
   |none=>G
   |some l=>P ((r,q.take m)::l)
def lV:List du->List Nat->List Th->bJ->Option bJ
 | [],_,_,e=>P e
 |a::r,fr,S,e=>match fr with
  | []=>G
  |x::q=>match S[x]? with
   |none=>G
   |some t=>match dZ e a t with
    |none=>G
    |some e'=>lV r q S e'
structure gR where
 r:PR
 e:bJ
 t:Th
def lK(rp:List PR):List (Nat×List Nat)->List gR->Option (List gR)
 | [],st=>P st
 |x::q,st=>match rp[x.1]? with
  |none=>G
  |some R=>match lV (aY R.bs) x.2 (st.map (·.t)) [] with
   |none=>G
   |some e=>lK rp q (st++[⟨R,e,bM e (cq R)⟩])
def J5(a r b S e):lV (a::r) b S e=match b with|[]=>G|x::q=>match S[x]? with|none=>G|some t=>match dZ e a t with|none=>G|some c=>lV r q S c:=by cases b<;>rfl
def iv(rp:List PR):List Nat:=rp.map λr=>(aY r.bs).length
def QV:∀(h:List du)(c:List Nat)(S:List Th)(b e:bJ),lV h c S b=P e->e∈gn (S.map λt=>(t,0)) h b
 | [],_,_,_,_,h=>by obtain rfl:=cI h;simp[gn]
 |a::r,c,S,b,e,h=>by
  rw[J5]at h
  cases c with
  |nil=>cases h
  |cons x q=>
   simp only at h
   cases f:S[x]? with
   |none=>rw[f]at h;cases h
   |some t=>
    rw[f]at h;simp only at h
    cases d:dZ b a t with
    |none=>rw[d]at h;cases h
    |some g=>rw[d]at h;simp only at h;rw[gn,gh];refine⟨(t,0),aU.2 ⟨t,tg f,rfl⟩,?_⟩;simp only[d];exact QV r q S g e h
def PT(a):(aY a).length<=Z a:=by unfold aY dq;rw[bF,bF];exact qU _ _
end
end Go.Proofs.YtldkpahaocjdpaaGreat
