/-
  The reference's Strata, plain: an insertion by names; how a row of strata is turned.
-/
import Derived.Test.YtldkpahaocjdpaaGreatA09
import Derived.Test.YtldkpahaocjdpaaGreatA14
set_option maxHeartbeats 16000000
set_option maxRecDepth 1000000
namespace Go.Proofs.YtldkpahaocjdpaaGreat
open Go.Value renaming slice->U,int->I,string->Y,pointer->Vp,agg->Va
open Go.IntKind renaming i64->J
open Go.Ending renaming returned->Vr
open Go.Obj renaming cells->Vc
open _root_.Option renaming none->G,some->P
open _root_.Bool renaming true->Bt,false->Bf
open Go.Addr renaming mk->C
open _root_.List renaming length->Z
open Go.World renaming heap->X,alloc->Al,setCell->Sc,cell?->Ce,ownsRow->Ow
open _root_.Array renaming size->F
open Go.Proofs.Tryz
set_option linter.defProp false
open Go.RowKit Go.Maps
abbrev nE:=B8×Nat×Nat
def jC(x:nE):V8:=[Y x.1,I J (x.2.1:Nat),I J (x.2.2:Nat)]
def sW(ps:P9)(S:Nat->Nat):Nat->List nE
 | 0=>[]
 |k+1=>sW ps S k++[((ps[k]?.getD default).1,S k,(ps[k]?.getD default).2)]
def wX(zs:List nE):Prop:=zs.Pairwise λx y=>fc y.1 x.1=Bf
variable {a:B8}
def Yd{x z}(y:fc x a=Bf)(b:fc a z=Bf):fc x z=false:=by
 have:=QQ.ntrans x a z (by rw[rV];exact y) (by rw[rV];exact b)
 rwa [rV]at this
structure uX(zs A:List nE)(x:nE)(B:List nE):Prop where
 eq:zs=A++x::B
 vW:wX (A++B)
 up:∀b∈B,fc x.1 b.1=Bt
variable {b c d:List nE}
def uX.down{a x}(h:uX b (c++[a]) x d)(B:fc x.1 a.1=Bt):uX (c++x::a::d) c x (a::d):=
 ⟨rfl,by have:=h.vW;simpa using this,λe A=>by rcases bS.1 A with rfl|A;exact B;exact h.up e A⟩
def Yf{x}(h:fc x a=Bt):fc a x=false:=by
 cases y:fc a x with
 |false=>rfl
 |true=>have:=CI h y;rw[Ay]at this;cases this
def uX.done{x}(h:uX b c x d)(m:∀A a,c=A++[a]->fc x.1 a.1=Bf):wX b:=by
 rw[h.eq];have k:=h.vW;unfold wX at k⊢;rw[ym]at k⊢;obtain⟨j,l,B⟩:=k;refine⟨j,BB.2 ⟨λk f=>Yf (h.up k f),l⟩,λa k y f=>?_⟩;rcases bS.1 f with rfl|f
 .rcases Bz c with e|⟨A,g,e⟩
  .subst e;cases k
  rw[Bw]at e;have i:=m A g e;subst e;rcases aS.1 k with k|k
  .have:=(ym.1 j).2.2 a k g oS;exact Yd i this
  rw[bu.1 k];exact i
 exact B a k y f
def U6(a):∀i x,i<Z a->(((a.flatMap jC).set (i*3) (Y x.1)).set (i*3+1) (I J (x.2.1:Nat))).set (i*3+2) (I J (x.2.2:Nat))=(a.set i x).flatMap jC:=by
 induction a with
 |nil=>intro i x h;simp at h
 |cons z r b=>
  intro i x h
  cases i with
  |zero=>simp[jC]
  |succ i=>have:=b i x (oU h);rw[iH,lY,lY,<-this];rw[show(i+1)*3=i*3+3 by omega,show i*3+3+1=i*3+1+3 by omega,show i*3+3+2=i*3+2+3 by omega];simp[jC]
def mC(ps:P9)(S:B8->Nat)(k:B8):V8:=[Y k,I J (S k),I J ((bE ps k).getD 0:Nat)]
def amu(a o b S k j u)(h:(mC b S k)[j]?=P u):Ce (Al (Al a o) (Vc #[Y k,I J (S k),I J ((bE b k).getD 0:Nat)] 185)) (((C (F (X a)+1) 0 G):Addr).add j)=P u:=by
 have e:((C (F (X a)+1) 0 G):Addr).add j=(C (F (X a)+1) j G):=by unfold Addr.add;split<;>simp_all
 rw[e,World.cell?_alloc_at _ _ _ _ oS];simpa[mC]using h
def aan(b S k):∀u∈mC b S k,u.oneCell'=true:=by intro u a;simp[mC]at a;rcases a with rfl|rfl|rfl<;>rfl
variable {a b c d:Nat}{e:V9}{f:W8}
def JD{v w}(h:Ow f a v b e c w)(n:e.ownBlock=P d):a<=d:=by
 rcases h.2 with⟨rfl,_⟩|⟨_,_,_,rfl,g,_⟩
 .cases n
 cases n;exact g
structure zS(w:W8)(b n:Nat)(ps:P9)(S:B8->Nat)(xs:List B8)(lv:V9)(cA:Nat)(wr:W8):Prop where
 rg:o8 prog 9 wr b (F (X w)) n (bq ps S) (λk=>(bq ps S k).isSome=Bt/\k∉xs) cA
 row:Ow wr (F (X w)+1) 185 3 lv (Z xs) (xs.flatMap (mC ps S))
 nd:xs.Nodup
 sm:∀x∈xs,(bq ps S x).isSome=Bt
 len:Z xs+cA<=n
 ai:Below (F (X w)) w wr
def zS.append{m S p wr}(h:zS f b a m S p e c wr)(D:b<F (X f)){k t u r o z}(v:(bq m S k).isSome=Bt/\k∉p) (A:o8 prog 9 t b (F (X f)) a (bq m S) (λx=>((bq m S x).isSome=Bt/\x∉p)/\x≠k) d) (y:d<c) (i:wr.grownBy t (P (F (X f))))(q:Ow u (F (X f)+1) 185 3 r (Z p+1) (p.flatMap (mC m S)++mC m S k)) (cA:(Al (Al t o) z).grownBy u e.ownBlock):zS f b a m S (p++[k]) r d u:=by
 have l:∀g,e.ownBlock=P g->F (X f)+1<=g:=λg n=>JD h.row n
 have g:=h.rg.lt;have B:=i.size;refine⟨?_,?_,?_,?_,?_,?_⟩
 .refine(((A.alloc o).alloc z).kept cA (λn=>?_) (λn=>?_)).XO λx=>?_
  .have:=l b n.symm;omega
  .have:=l _ n.symm;omega
  simp only[aS,bu,not_or,ne_eq];exact and_assoc
 .rw[br,oc];simpa using q
 .rw[pF];exact⟨h.nd,oS,λw j s y n=>v.2 (by rw[bu.1 y]at n;rw[<-n];exact j)⟩
 .intro x w;rcases aS.1 w with w|w
  .exact h.sm x w
  rw[bu.1 w];exact v.1
 .have:=h.len;rw[br,sq];omega
 have w:=cA.size;rw[bL,bL]at w;refine⟨?_,?_,?_,?_,λj s=>?_⟩
 .rw[cA.os];exact i.os.trans h.ai.os
 .rw[cA.tape];exact i.tape.trans h.ai.tape
 .rw[cA.output];exact i.output.trans h.ai.output
 .have:=h.ai.size;omega
 rw[cA.block j oT (λn=>by have:=l j n.symm;omega),aW _ _ _ oT,aW _ _ _ O,i.block j O oT];exact h.ai.block j s
def Tf(w:W8)(ps:P9)(S:B8->Nat):Ending->W8->Prop:=λe w'=>
 ∃(v:V9)(ys:List B8),e=Vr v/\Ow w' (F (X w)+1) 185 3 v (Z ys) (ys.flatMap (mC ps S))/\ys.Pairwise (λx y=>fc x y=Bt)/\(∀k,k∈ys↔(bE ps k).isSome=Bt)/\Below (F (X w)) w w'
def aam(a S k u)(h:bq a S k=P u):u=Va #[Y k,I J (S k),I J ((bE a k).getD 0:Nat)]:=by
 unfold bq at h
 cases b:bE a k with
 |none=>rw[b]at h;cases h
 |some m=>rw[b]at h;injection h with h;exact h.symm
structure tz(w:W8)(zs:List nE)(lv:V9)(wr:W8):Prop where
 row:Ow wr (F (X w)) 185 3 lv (Z zs) (zs.flatMap jC)
 ai:Below (F (X w)) w wr
def acz(w:W8)(ps:P9)(S:Nat->Nat):Ending->W8->Prop:=λe w'=>
 ∃(v:V9)(zs:List nE),e=Vr v/\tz w zs v w'/\wX zs/\zs.Perm (sW ps S (Z ps))
def afh(wr x j u)(h:(jC x)[j]?=P u):((Al (Al wr (Vc #[Y x.1,I J (x.2.1:Nat),I J (x.2.2:Nat)] 185)) (Vc #[Y x.1,I J (x.2.1:Nat),I J (x.2.2:Nat)] 185)).drew).cell? (((C (F (X wr)+1) 0 G):Addr).add j)=P u:=by
 have e:((C (F (X wr)+1) 0 G):Addr).add j=(C (F (X wr)+1) j G):=by unfold Addr.add;split<;>simp_all
 rw[e]
 show Ce (Al (Al wr _) _) _=_
 rw[World.cell?_alloc_at _ _ _ _ oS];simpa[jC]using h
def afi(x):∀u∈jC x,u.oneCell'=true:=by intro u a;simp[jC]at a;rcases a with rfl|rfl|rfl<;>rfl
variable {a b e:List nE}{k:V9}{d g:W8}
def tz.append(h:tz d a k g){o w x c f}(b:Ow f (F (X d)) 185 3 c (Z a+1) (a.flatMap jC++jC x))(i:((Al (Al g o) w).drew).grownBy f k.ownBlock):tz d (a++[x]) c f:=by
 refine⟨by rw[br,oc];simpa using b,?_⟩;have n:=i.size;have m:=h.ai.size;have l:F (X g)+2<=F (X f):=by
  have:((Al (Al g o) w).drew).heap.size=F (X g)+2:=by show(Al (Al g o) w).heap.size=_;simp
  omega
 refine⟨i.os.trans h.ai.os,i.tape.trans h.ai.tape,i.output.trans h.ai.output,O,λj wr=>?_⟩;rw[i.block j (by show j<(Al (Al g o) w).heap.size;simp;omega) (λe=>by have:=JD h.row e.symm;omega)]
 show(Al (Al g o) w).heap[j]?=_
 rw[aW _ _ _ oT,aW _ _ _ O];exact h.ai.block j wr
variable {j:nE}
def uX.stop{x}(h:uX a (b++[j]) x e)(c:fc x.1 j.1=Bf):wX a:=h.done λf g d=>by
 have:=LM d rfl;rw[List.cons.inj this.2 |>.1]at c;exact c
variable {f h i:Nat}
def ajM{e w k m}(n:Ow d f e c (U (P (C i 0 G)) h w) m k):∀j,d.frozen? (C i j G)=false:=by
 intro j;rcases n.2 with⟨a,_⟩|⟨_,_,_,g,_,b,_⟩
 .cases a
 injection g with a l o
 injection a with a
 injection a with a
 subst a;simp[World.frozen?,b]
def Qu(h:tz d b k g)(n):tz d b k (g.drewN n):=⟨h.row,⟨h.ai.os,h.ai.tape,h.ai.output,h.ai.size,h.ai.block⟩⟩
def aa4{B S x k}(g:e.Perm (sW B S c))(A:a++b=e)(h:((k,S c,f):nE)=x)(d:(B[c]?.getD default)=(k,f)):(a++x::b).Perm (sW B S (c+1)):=by rw[sW,d,h];exact List.perm_middle.trans (((A▸g).cons x).trans (List.perm_append_singleton x _).symm)
def aa3{x}(A:a++e=b)(B:Z b=c):(a++x::e).length=c+1:=by rw[<-B,<-A];simp;omega
def alz{x}(w:Z b=i)(n:tz d (b++j::x::a) (U (P (C c 0 G)) h f) g)(o):tz d (b++x::j::a) (U (P (C c 0 G)) h f) (Al (Sc (Sc (Sc (Sc (Sc (Sc g (C c ((i+1)*3) G) (Y j.1)) (C c ((i+1)*3+1) G) (I J (j.2.1:Nat))) (C c ((i+1)*3+2) G) (I J (j.2.2:Nat))) (C c (i*3) G) (Y x.1)) (C c (i*3+1) G) (I J (x.2.1:Nat))) (C c (i*3+2) G) (I J (x.2.2:Nat))) o):=by
 subst w;have w:=n.row;have B:h=(b++j::x::a).length:=by
  rcases w.2 with⟨m,_⟩|⟨_,_,_,e,_⟩
  .cases m
  injection e with _ W _
 subst B;have B:=(w.lt c rfl).1;have m:=lI (lI (lI (lI (lI (lI w ((Z b+1)*3) (Y j.1)) ((Z b+1)*3+1) (I J (j.2.1:Nat))) ((Z b+1)*3+2) (I J (j.2.2:Nat))) (Z b*3) (Y x.1)) (Z b*3+1) (I J (x.2.1:Nat))) (Z b*3+2) (I J (x.2.2:Nat));rw[U6 _ (Z b+1) j oS,U6 _ (Z b) x oS]at m;have e:((b++j::x::a).set (Z b+1) j).set (Z b) x=b++x::j::a:=oS
 rw[e]at m;have W:(b++x::j::a).length=(b++j::x::a).length:=oS
 refine⟨?_,?_⟩
 .rw[W];exact m.alloc _
 have k:=n.ai.size;refine Below.alloc ?_ oT _;exact(((((n.ai.setCell (p:=(C c _ G)) B _).setCell (p:=(C c _ G)) B _).setCell (p:=(C c _ G)) B _).setCell (p:=(C c _ G)) B _).setCell (p:=(C c _ G)) B _).setCell (p:=(C c _ G)) B _
def alA(w o rs b rv pv tv Q S)(h:kC w o rs b rv pv tv (U (P (C Q 0 G)) (Z b) (Z b)))(k:jW w Q (Z b) S)(An:Z b<=1000):Calls prog 85 #[Vp (P (C o 0 G))] w (acz w b S):=by
 obtain⟨u,g,c1,c2,c3,m,x,p,a,i⟩:=h;obtain⟨i0,hi,gB,dx,cB⟩:=info_parts OG;obtain⟨_,_,rfl⟩:=aF a;obtain⟨_,_,rfl⟩:=aF i;have j:tz w [] (U G 0 0) w:=⟨dm _ _ _ _,aZ _ _⟩;have T:=H k;have R:=H a;have V:=H i;clear g m x p k a i;go_in;go_wp2
 go_loopg [3,4] (Z b) (λa p i wr=>∃(k:Nat)(h:List nE),k<=Z b/\a=Z b-k/\i=I J k/\tz w h p wr/\wX h/\h.Perm (sW b S k)/\(Z h)=k)
 exact⟨0,[],aI _,rfl,rfl,j,List.Pairwise.nil,List.Perm.nil,rfl⟩
 case round=>
  clear j;obtain⟨k,h,_,_,rfl,m,g,p,x⟩:=hrel;obtain⟨_,_,rfl⟩:=aF m.row;obtain⟨n,E⟩:=Jy m.ai;have hsz:=m.ai.size;have e:=(n o 1 u).trans c1;have W:=(n o 2 u).trans c2;have c:=(n o 3 u).trans c3;have M:=H m;have v:=H g;have t:=H p;have HZ:=H x;have hzI:Z h<=1000:=O
  clear m g p x
  by_cases p:k<Z b
  .obtain⟨g,_,hv,_,_,_,d⟩:=rZ R O;injection hv with x h2 N
   subst x N;obtain⟨N,_,E0,_,_,_,x⟩:=rZ V O;injection E0 with B h5 A
   subst B A;have B:=(n g k (R.lt g rfl).2).trans (d k p);have A:=(n N k (V.lt N rfl).2).trans (x k p);rw[gP,dr p]at B A;simp only[ve]at B A;have y:=(n Q k T.sz).trans (T.cell k p);have f:(b[k]?.getD default)=(b[k].1,b[k].2):=(by rw[dr p];rfl);have HX:=H f;have L:o<F (X wr):=O;have r:g<F (X wr):=(oF ((R.lt g rfl).2));have D:N<F (X wr):=(oF ((V.lt N rfl).2));have q:Q<F (X wr):=(oF T.sz);clear d x n E f;go_wp2
   go_region
   go_wp2_with(at_builtin;refine ka _ rfl _ _ 118 rfl (F (X w)) 185 i0 _ 3 32 underlying118 hi gB dx cB rfl oD _ _ _ rfl ((M.row.alloc _).alloc _) (C (F (X wr)+1) 0 G) 1 1 (jC (b[k].1,S k,b[k].2)) rfl rfl (afh wr (b[k].1,S k,b[k].2)) (afi _) oM O oT ?_);intro v5 w5 x n d;clear d;obtain⟨a5,d,rfl⟩:=aF x;have f:=M.append x n;clear x n B A y e W c L r D q M;have j:uX (h++[(b[k].1,S k,b[k].2)]) h (b[k].1,S k,b[k].2) []:=⟨rfl,by rw[kO];exact v,oS⟩;generalize A:((b[k].1,S k,b[k].2):nE)=x at*;have y:=H A;clear A;go_wp2
   go_loopg [6] (Z h) (λa i e=>∃(A B:List nE),a=Z A/\i=I J (Z A:Nat)/\A++B=h/\tz w (A++x::B) (U a5 (Z h+1) d) e/\uX (A++x::B) A x B)
   exact⟨h,[],rfl,oN,kO _,f,j⟩
   case round=>
    clear f j;obtain⟨A,B,rfl,rfl,f,m,j⟩:=hrel;rcases Bz A with e|⟨i,a,e⟩
    .subst e;have W:=H m;have c:=H j;clear m j;have L:decide ((0:Int)<((([]:List nE).length:Nat):Int))=false:=oD;go_wp2;go_quiet(fail);go_wp2;go_roundg(Z b-(k+1));exact⟨k+1,_,O,rfl,oN,Qu W _,c.done (λi a e=>by simp at e),aa4 t f y HX,aa3 f HZ⟩;omega
    rw[Bw]at e;subst e;have hl:(i++[a]).length=Z i+1:=oS;have L:(i++[a])++x::B=i++a::x::B:=oS;have r:=H m;rw[L]at m;have D:(i++a::x::B).length=Z h+1:=(by rw[<-f];simp;omega);obtain⟨q,_,sJ,_,n,E,_,e⟩:=gu (f:=jC) (λ_=>rfl) m.row (Z i) oS;obtain⟨_,_,hv6,xn,IF,K,z,l⟩:=gu (f:=jC) (λ_=>rfl) m.row (Z i+1) oS;injection sJ with s h8a h9
    subst s h9;injection hv6 with s h8 h9
    injection s with s
    injection s with s
    subst s h9;have e5:(i++a::x::B)[Z i]'oS=a:=oS;have e6:(i++a::x::B)[Z i+1]'oS=x:=oS;rw[e5]at e;rw[e6]at l;have p0:=e 0 O;have p1:=e 1 O;have p2:=e 2 O;have q0:=l 0 O;have q1:=l 1 O;have q2:=l 2 O;simp only[jC,iy,aT,bx]at p0 p1 p2 q0 q1 q2;have W:=H m;have c:=H j;have s:=H f;have hmz:Z i+1<Z h+1:=(by rw[<-D];simp);have ap3:Z i<Z h:=O;have hcz:Z h+1<=d:=O;rw[hl];clear m j e l e5 e6 L h8 h8a K z IF xn hl D E hmz;have m:((Z i+1:Nat):Int)=(Z i:Int)+1:=O;rw[m];clear m f;generalize D:Z i=m at*;have f:=H D;clear D;have D:(0:Int)<(m:Int)+1:=O;have E:(0:Int)<=(m:Int)+1:=O;have K:(m:Int)<(Z h:Int):=O;have L:(m:Int)+1<(Z h:Int)+1:=O;have hmK:(m:Int)<(Z h:Int)+1:=O
    cases e:Op.bytesLess x.1.toList a.1.toList with
    |true=>
    as_aux_lemma=>go_wp2;go_quiet(fail);have z:=ajM W.row;have l:Hid (tz w (i++a::x::B) (U (P (C q 0 G)) (Z h+1) d) (wr.drewN nq)):=H (Qu W nq);have P0:(wr.drewN nq).cell? (C q (m*3) G)=P (Y a.1):=p0;have P1:(wr.drewN nq).cell? (C q (m*3+1) G)=P (I J (a.2.1:Nat)):=p1;have P2:(wr.drewN nq).cell? (C q (m*3+2) G)=P (I J (a.2.2:Nat)):=p2;have Q0:(wr.drewN nq).cell? (C q ((m+1)*3) G)=P (Y x.1):=q0;have Q1:(wr.drewN nq).cell? (C q ((m+1)*3+1) G)=P (I J (x.2.1:Nat)):=q1;have Q2:(wr.drewN nq).cell? (C q ((m+1)*3+2) G)=P (I J (x.2.2:Nat)):=q2;have FZ:∀j,(wr.drewN nq).frozen? (C q j G)=false:=z;have G5:q<(wr.drewN nq).heap.size:=n;clear p0 p1 p2 q0 q1 q2 z n W r;generalize wr.drewN nq=W at*;have n00:¬(m+1)*3=m*3:=O;have z:¬m*3=(m+1)*3:=O;have n01:¬(m+1)*3=m*3+1:=O;have j:¬m*3+1=(m+1)*3:=O;have n02:¬(m+1)*3=m*3+2:=O;have k02:¬m*3+2=(m+1)*3:=O;have n10:¬(m+1)*3+1=m*3:=O;have k10:¬m*3=(m+1)*3+1:=O;have n11:¬(m+1)*3+1=m*3+1:=O;have k11:¬m*3+1=(m+1)*3+1:=O;have n12:¬(m+1)*3+1=m*3+2:=O;have k12:¬m*3+2=(m+1)*3+1:=O;have n20:¬(m+1)*3+2=m*3:=O;have k20:¬m*3=(m+1)*3+2:=O;have n21:¬(m+1)*3+2=m*3+1:=O;have k21:¬m*3+1=(m+1)*3+2:=O;have n22:¬(m+1)*3+2=m*3+2:=O;have k22:¬m*3+2=(m+1)*3+2:=O;have n:¬q=F (X W):=O;clear c1 c2 c3;go_wp2;go_roundg m;exact⟨i,a::B,f.symm,by rw[ag f],by rw[<-ag s];simp,alz f l _,c.down e⟩;have hq:=ag f;first|omega|(simp;omega)
    |false=>
    as_aux_lemma=>have l:=H e;go_wp2;go_quiet(fail);go_wp2;go_roundg(Z b-(k+1));exact⟨k+1,_,O,rfl,oN,Qu r _,c.stop l,aa4 t s y HX,aa3 s HZ⟩;omega
  have a:k=Z b:=O
  subst a;go_wp2;go_ret;exact⟨_,h,rfl,M,v,t⟩
end Go.Proofs.YtldkpahaocjdpaaGreat
