/-
  denied: whether a negative literal is said after all.
-/
import Derived.Test.YtldkpahaocjdpaaGreatA08
import Derived.Test.YtldkpahaocjdpaaGreatA07
import Derived.Deep.RegionHeld3
import Derived.RangeFuncBound
import Derived.RangeFuncLeaves
import Derived.Shelf.Abstract
import Derived.Shelf.RegionOpen
import Derived.OwnWalkIn
import Derived.TacticsInMore
import Derived.LoopNIn
import Derived.LoopIn
import Derived.Stop.RegionWithIn
import Derived.Laws.EntriesVeiled
import Derived.Test.YtldkpahaocjdpaaGreatA11
import Derived.Laws.Concat
import Derived.Test.YtldkpahaocjdpaaGreatA12
import Derived.Sort.OwnSorted
import Derived.Test.YtldkpahaocjdpaaGreatA13
set_option maxHeartbeats 16000000
set_option maxRecDepth 1000000
namespace Go.Proofs.YtldkpahaocjdpaaGreat
open Go.Value renaming slice->U,int->I,string->Y,bool->Vb,pointer->Vp,agg->Va,tuple->Vt
open Go.IntKind renaming i64->J
open Go.Ending renaming returned->Vr
open Go.Obj renaming cells->Vc
open _root_.Option renaming none->G,some->P
open _root_.Bool renaming true->Bt,false->Bf
open Go.Addr renaming mk->C
open _root_.List renaming length->Z
open Go.World renaming heap->X,alloc->Al,setCell->Sc,cell?->Ce,ownsRow->Ow
open _root_.Array renaming size->F
open Go.Proofs.Tryz
set_option linter.defProp false
section
section
open Go.RowKit
attribute [local go_sem ↓] tW tX ab4
attribute [local go_sem] tF ux aa9
def Em(x):(El x).length=2:=rfl
def aeZ(No w n m l pos a pv nv K)(h:zv No w n m l pos a pv nv K)(e)(hl:Z e<=12)(i:∀x∈a,fY (bM e x.1)):Calls prog 248 #[Vp (P (C n 0 G)),ig e] w λen c=>en=Vr (Vb (nJ K (a.map (·.1)) e))/\Below (F (X w)) w c:=by
 obtain⟨cs,g⟩:∃cs,cs=(CJ e).toArray:=⟨_,rfl⟩;have M:=H g;unfold ig;rw[<-g];clear g;obtain⟨_,g⟩:=h.n.row;obtain⟨an,cn,rfl⟩:=aF g;have rQ:=ej g;unfold maxLen at rQ;have p:=H g;have u:=(aM.1 h.s).1;have z:=H u;have x:=H h;have qg:=H i;have q0:cs.size=25:=by rw[ag M];rfl
 clear h g i u;go_in;go_upto_region 1 with fail;generalize i:World.alloc w _=u;have R:Below (F (X w)) w u:=by rw[<-i];exact(aZ (F (X w)) w).alloc L9 _
 have L:u.heap[F (X w)]?=P (Vc cs 135):=by rw[<-i];exact aG w _
 have s0:F (X w)+1=F (X u):=by rw[<-i];simp
 have k:=(R.block n z).trans x.s;have B:=gC p (λg e=>R.block g (p.lt g e).2);clear i;obtain⟨c1,-⟩:=aj k 1;have Lp:=H L;have HS:=H k;have mW:=H R;have Bj:=H B;clear L k R B;go_wp2
 go_loopg [14] (Z a) (λB i wr=>∃k:Nat,k<=Z a/\B=Z a-k/\i=I J k/\nJ K ((a.drop k).map (·.1)) e=nJ K (a.map (·.1)) e/\Below (F (X u)) u wr)
 exact⟨0,aI _,rfl,rfl,rfl,aZ _ _⟩
 case round=>
  obtain⟨k,_,_,rfl,i,R⟩:=hrel;have HF:=H i;have HB:=H R;have sz:=R.size;have B:Below (F (X w)) w wr:=mW.trans (R.mono O);have L:=H B;clear i R B
  by_cases B:k<Z a
  .obtain⟨g,_,hv,_,S,_,_,R⟩:=gu Em Bj k B;injection hv with V h2 v
   subst V v;have V:=R 0 O;have v:=R 1 O;have N:=aN B;obtain⟨tb,j⟩:=x.n.aq _ N;obtain⟨s,t,d⟩:=aF j;have r:=x.n.dc _ N;obtain⟨D,i⟩:∃D,D=a[k].1:=⟨_,rfl⟩;have b:Ow w tb 191 1 (U s (Z D.ts) t) (Z D.ts) (D.ts.map kx):=(by rw[i,<-d];exact j);have T:Ce wr (C g (k*2+0) G)=P (Y D.p):=by rw[i];exact(HB.cell (p:=(C g (k*2+0) G)) S).trans (R 0 O)
   have y:Ce wr (C g (k*2+1) G)=P (U s (Z D.ts) t):=by rw[i,<-d];exact(HB.cell (p:=(C g (k*2+1) G)) S).trans (R 1 O)
   have A:=H b;have f:=H (show nJ K ((a.drop k).map (·.1)) e=((bK K (bM e D)).isSome||nJ K ((a.drop (k+1)).map (·.1)) e) by rw[dM B,i];rfl);have q:=H (show fY (bM e D) by rw[i];exact qg _ N);rw[<-i]at r;have kf:(k:Int)<Z a:=O;rw[iy]at T;clear R V v j d b N i;go_upto_region 4 with fail;generalize i:World.alloc wr _=b;have V:Below (F (X wr)) wr b:=(by rw[<-i];exact(aZ (F (X wr)) wr).alloc L9 _);have v:F (X wr)+1=F (X b):=(by rw[<-i];simp);have N:Below (F (X w)) w b:=L.trans (V.mono O);have j:Below (F (X u)) u b:=HB.trans (V.mono O);obtain⟨a0,-⟩:=aj (show b.heap[F (X wr)]?=P (Vc #[Y D.p,U s (Z D.ts) t] 79) by rw[<-i];exact aG wr _) 0;obtain⟨a1,-⟩:=aj (show b.heap[F (X wr)]?=P (Vc #[Y D.p,U s (Z D.ts) t] 79) by rw[<-i];exact aG wr _) 1;obtain⟨a2,-⟩:=aj ((j.block n (oF (ag z))).trans HS) 2;have r0:BV b (F (X w)) e:=(by unfold BV;rw[<-ag M];exact(j.block _ O).trans Lp);have WD:∀c:W8,BV c (F (X w)) e->(rf (Vp (P (C (F (X w)) 0 G)))).run prog c=.ok (ig e) c:=λ_ h=>h.load
   simp only[bt,aT,bx]at a0 a1 a2;have IZ:=ag z;have R:=H (λ(W:W8)(d:Below (F (X b)) b W)=>x.m.block ((d.block m (oF x.m.lt)).trans (N.block m x.m.lt)));have Q:=H (λ(W:W8)(d:Below (F (X b)) b W)=>(CX W tb e D s t (gC A (λg y=>(d.block g (oF ((A.lt g y).2))).trans (N.block g (A.lt g y).2))) r hl));have HA:=H (λ(W:W8)(d:Below (F (X b)) b W)=>(show BV W (F (X w)) e/\Ce W (C n 2 G)=P (.map (P m))/\Ce W (C (F (X wr)) 0 G)=P (Y D.p)/\Ce W (C (F (X wr)) 1 G)=P (U s (Z D.ts) t) from ⟨r0.ai d,(d.cell (p:=(C n 2 G)) (by simp only[];omega)).trans a2,(d.cell (p:=(C (F (X wr)) 0 G)) (by simp only[];omega)).trans a0,(d.cell (p:=(C (F (X wr)) 1 G)) (by simp only[];omega)).trans a1⟩));have E:=H N;have o:=H j;have HS3:=H v;clear i V v N j T y c1 q0 s0 sz
   cases j:(bK K (bM e D)).isSome with
   |true=>
    have N:=H (show nJ K (a.map (·.1)) e=Bt by rw[<-ag HF,ag f,j];rfl);have HQ:=H j;have y:=H (λ(W:W8)(d:Below (F (X b)) b W)=>(show(Instr.lookup 82 (.map (P m)) (cP (bM e D)) Bt).run prog W=.ok (Vt #[I J (((bK K (bM e D)).getD 0:Nat):Int),Vb Bt]) W from by have:=(R W d).look (t:=bM e D) q underlying82;rw[j]at this;exact this));clear j
    go_region_held3 (λc=>BV c (F (X w)) e/\Ce c (C n 2 G)=P (.map (P m))/\Ce c (C (F (X wr)) 0 G)=P (Y D.p)/\Ce c (C (F (X wr)) 1 G)=P (U s (Z D.ts) t)) ((simp[*,Ry])) ((first|(go_at_call 146;refine(Q _ (by exact B9.drew)).mono ?_;rintro en V⟨i,rfl⟩;have rK:=ag HA V (jB i);have T:=ag y V (jB i);have v:=H (jB i);clear i)))
    go_wp2;go_ret;exact⟨by rw[ag N];rfl,E.trans (v.mono (by exact(E).size))⟩
   |false=>
    have N:=H (show nJ K ((a.drop (k+1)).map (·.1)) e=nJ K (a.map (·.1)) e by rw[<-ag HF,ag f,j];rfl);have HQ:=H j;have y:=H (λ(W:W8)(d:Below (F (X b)) b W)=>(show(Instr.lookup 82 (.map (P m)) (cP (bM e D)) Bt).run prog W=.ok (Vt #[I J (((bK K (bM e D)).getD 0:Nat):Int),Vb Bf]) W from by have:=(R W d).look (t:=bM e D) q underlying82;rw[j]at this;exact this));clear j
    go_region_held3 (λc=>BV c (F (X w)) e/\Ce c (C n 2 G)=P (.map (P m))/\Ce c (C (F (X wr)) 0 G)=P (Y D.p)/\Ce c (C (F (X wr)) 1 G)=P (U s (Z D.ts) t)) ((simp[*,Ry])) ((first|(go_at_call 146;refine(Q _ (by exact B9.drew)).mono ?_;rintro en V⟨i,rfl⟩;have rK:=ag HA V (jB i);have T:=ag y V (jB i);have v:=H (jB i);clear i)))
    go_wp2;go_roundg(Z a-(k+1));exact⟨k+1,O,rfl,oN,N,o.trans (v.mono o.size)⟩;omega
  have N:=H (show nJ K (a.map (·.1)) e=Bf by rw[<-ag HF,gE O];rfl);go_wp2;go_ret;exact⟨by rw[ag N];rfl,L⟩
end
section
open Go.RowKit Go.Shelf
attribute [local go_sem ↓] tW tX ab4
attribute [local go_sem] tF ux aa9
def Mp(No:Nat->Prop)(l N:Nat)(Qx:bJ->Prop)(a Jx:List bJ->W8->Prop):Prop:=
 ∀(m:Nat)(pre:List bJ)(x:bJ)(W:W8),Qx x->a pre W->Z pre<N->YieldAt Fence.wide m prog l #[ig x] W λen W'=>
  ∃c:Bool,en=Vr (Vb c)/\(c=Bt->a (pre++[x]) W'/\bU No W W')/\(c=Bf->Jx (pre++[x]) W')
def RI(No:Nat->Prop)(a Jx:List bJ->W8->Prop)(pre ws:List bJ)(M:Nat)(w:W8)(en:Ending)(w':W8):Prop:=
 (en=Vr (Vb Bt)/\∃ys,(∀x,x∈ys↔x∈ws)/\(Z ys)<=M/\a (pre++ys) w'/\bU No w w')\/(en=Vr (Vb Bf)/\∃ys,(∀x∈ys,x∈ws)/\Jx (pre++ys) w')
def BX{B}{a:List bJ->W8->Prop}(c:AbidesFrom B a){s w b}(h:a s w)(k:Below (F (X w)) w b):a s b:=
 c s w b G h ⟨k.os,k.tape,k.output,k.size,λi e _=>k.block i e⟩ (λ_ e=>by cases e)
def ag2(o w s V l i b pv nv K)(h:zv o w s V l i b pv nv K)(e)(hl:Z e<=12)(c:∀x∈b,fY (bM e x.1))(E) (r:∀x∈jn K (b.map (·.1)) [] e,E x) (a Q) (B N) (f:AbidesFrom B a) (j:Mp o l N E a Q) (d) (z:a d w) (m:Z d<N) (W:∀g,o g->g<F (X w)):Calls prog 234 #[Vp (P (C s 0 G)),I J (Z i:Nat),ig e] w (RI o a Q d (jn K (b.map (·.1)) [] e) 1 w):=by
 obtain⟨_,x⟩:=h.p.row;obtain⟨_,_,rfl⟩:=aF x;have L:=ej x;unfold maxLen at L;have n:=(aM.1 h.s).1;have D:=H n;have g:=H h;have HP:=H z;have HY:=H j;have M:=H f;have v:=H m;have y:=H c;have zE:=H W;have HQ:=H r;clear r;clear h x n z j f m c W;go_in;go_upto_region 1 with fail;generalize W:World.alloc w _=x;have f:Below (F (X w)) w x:=by rw[<-W];exact(aZ (F (X w)) w).alloc L9 _
 have r:BV x (F (X w)) e:=by rw[<-W];exact BV.new w e
 have s0:F (X w)+1=F (X x):=by rw[<-W];simp
 have c:=g.rT (bU.bC f);clear W;obtain⟨p,-⟩:=aj c.s 0;have n:=H r;have m:=H f;have j:=H c;have z:=H (BX M HP f);clear c r f;go_upto_region 2 with fail;obtain⟨r,-⟩:=aj j.s 3;have f:∀q:W8,BV q (F (X w)) e->(rf (Vp (P (C (F (X w)) 0 G)))).run prog q=.ok (ig e) q:=λ_ h=>h.load
 have hl0:=f x.drew n;have q:=H (λ(W:W8)(c:Below (F (X x)) x W)=>(aeZ o W s V l i b _ nv K (j.rT (bU.bC c)) e hl y));have t:=H (λ(W:W8)(c:Below (F (X x)) x W)=>f W (n.ai c));have u:=H (λ(W:W8)(c:Below (F (X x)) x W)=>(c.cell (p:=(C s 3 G)) (by have:=ag D;simp only[];omega)).trans r);have k:=H (λ(W:W8)(c:Below (F (X x)) x W)=>BX M z c);clear f p r
 cases f:nJ K (b.map (·.1)) e with
 |true=>
  rw[f]at q;have r:=H (show jn K (b.map (·.1)) [] e=[] by unfold jn gn;simp[f]);clear f
  first|go_region_with(go_at_call 248;refine(q _ (by exact B9.drew)).mono ?_;rintro R p⟨rfl,c⟩;have W:=H (jB c);clear c)|fail
  all_goals
   go_wp2;go_ret;rw[ag r];exact .inl ⟨rfl,[],λ_=>Iff.rfl,oS,by rw[kO];exact k _ W,(bU.bC m).trans (bU.bC W)⟩
 |false=>
  rw[f]at q;have r:=H (show jn K (b.map (·.1)) [] e=[e] by unfold jn gn;simp[f]);have A:E e:=HQ e (by rw[ag r];exact bu.2 rfl);clear f;refine(wpIn_wide (n:=2)).1 ?_
  first|gi_region_with (first|(refine⟨trivial,?_⟩;gi_at_call 248;refine(callsIn_wide.2 (q _ (by exact B9.drew))).mono ?_;rintro R p⟨rfl,c⟩;have W:=H (jB c);have l4:=ag t p W;have y4:=ag u p W;obtain⟨_,_,_,_,hy,T⟩:=HY 1 d e p A (k p W) v;clear c)|(refine T.mono ?_;rintro R w5⟨c,rfl,S⟩;have f:=H S;clear S T hy))|fail
  all_goals
   go_wp2;go_ret;rw[ag r]
   cases c with
   |true=>exact .inl ⟨rfl,[e],λ_=>Iff.rfl,oS,(f.1 rfl).1,((bU.bC m).trans (bU.bC W)).trans (f.1 rfl).2⟩
   |false=>exact .inr ⟨rfl,[e],λ_ h=>h,f.2 rfl⟩
end
section
open Go.RowKit Go.Maps
attribute [local go_sem ↓] tW tX wj pB qa p9 tF pY
attribute [local go_sem] ux xJ sT sR
def AZ(K:List (Th×Nat))(neg:List du)(a:du)(r:List du)(e:bJ)(Lf:Th->Prop)(x:bJ):Prop:=∃p∈K,¬Lf p.1/\∃e',dZ e a p.1=P e'/\x∈jn K neg r e'
variable{a:List (Th×Nat)}{b e:List du}{c:du}{d:bJ}
def Pb{x}:x∈jn a b (c::e) d↔∃p∈a,∃f,dZ d c p.1=P f/\x∈jn a b e f:=by
 unfold jn;rw[gI,gn,gh]
 constructor
 .rintro⟨⟨p,g,K⟩,h⟩
  cases r:dZ d c p.1 with
  |none=>rw[r]at K;cases K
  |some f=>rw[r]at K;exact⟨p,g,f,r,gI.2 ⟨K,h⟩⟩
 rintro⟨p,g,f,r,K⟩;obtain⟨h,i⟩:=gI.1 K;exact⟨⟨p,g,by rw[r];exact h⟩,i⟩
def aiI{x r p}(e:p∈a)(K:dZ d c p.1=P r)(f:x∈gn a b r):x∈gn a (c::b) d:=by rw[gn,gh];exact⟨p,e,by rw[K];exact f⟩
def AZ.step{x f t n}(i:(t,n)∈a):AZ a b c e d (λy=>f y/\y≠t) x↔AZ a b c e d f x\/∃K,dZ d c t=P K/\x∈jn a b e K:=by
 constructor
 .rintro⟨p,r,K,y⟩
  by_cases g:p.1=t
  .right;rw[g]at y;exact y
  left;exact⟨p,r,λh=>K ⟨h,g⟩,y⟩
 rintro(⟨p,r,K,y⟩|y)
 .exact⟨p,r,λh=>K h.1,y⟩
 exact⟨(t,n),i,λh=>h.2 rfl,y⟩
structure RH(No:Nat->Prop)(b:List bJ->W8->Prop)(w:W8)(mb rb:Nat)(K:List (Th×Nat))(neg:List du)(a:du)(r:List du)(e:bJ)(pre:List bJ)(M:Nat)(Lf:Th->Prop)(ys:List bJ)(cA:Nat)(wr:W8):Prop where
 rg:n9 wr mb rb K Lf cA
 cn:cA<=Z K
 mem:∀x,x∈ys↔AZ K neg a r e Lf x
 len:Z ys<=(Z K-cA)*M
 j:b (pre++ys) wr
 kp:bU No w wr
 bv:BV wr (F (X w)) e
def akp{M g d}(b:0<g)(h:g<=M):(M-g)*M ^ d+M ^ d<=M ^ (d+1):=by
 have a:(M-g)*M ^ d+M ^ d=(M-g+1)*M ^ d:=by rw[wT]
 rw[a,L7,Nat.mul_comm];exact Nat.mul_le_mul_left _ O
def amG{M g c d:Nat}(h:c<g)(b:g<=M):(M-g)*M ^ d+M ^ d<=(M-c)*M ^ d:=by
 have a:(M-g)*M ^ d+M ^ d=(M-g+1)*M ^ d:=by rw[wT]
 rw[a];exact yn _ O
def ag1(T sb mb l f q pv nv K Qx b Jx B N)(p:AbidesFrom B b)(M:Mp T l N Qx b Jx)(n:∀g,T g->g<B)(Vs)(hV:Z Vs<=12)(s:∀x∈f,∀t∈x.1.ts,t.1=Bt->t.2∈Vs):∀d i e w k,i+d=Z f->zv T w sb mb l f q pv nv K->b k w->B<=F (X w)->iY Vs e->(∀e'∈gn K ((f.drop i).map (·.1)) e,∀x∈q,fY (bM e' x.1))->Z k+(Z K) ^ d<=N->(∀x∈jn K (q.map (·.1)) ((f.drop i).map (·.1)) e,Qx x) ->Calls prog 234 #[Vp (P (C sb 0 G)),I J (i:Nat),ig e] w (RI T b Jx k (jn K (q.map (·.1)) ((f.drop i).map (·.1)) e) ((Z K) ^ d) w):=by
 intro d
 induction d with
 |zero=>
  intro i e w k c V u h j m L o;rw[iy]at c;subst c;have R:(f.drop (Z f)).map (·.1)=([]:List du):=by rw[List.drop_length];rfl
  rw[R]at m o⊢;exact ag2 T w sb mb l f q pv nv K V e (oF j.len) (m e (by simp[gn])) Qx o b Jx B N p M k u (by rw[Nat.pow_zero]at L;omega) (λg a=>by have:=n g a;omega)
 |succ d R=>
  intro i e w k c V u h j m L o;have HQ:=H o;clear o;have Cp:i<Z f:=O
  obtain⟨_,o⟩:=V.p.row;obtain⟨_,cn,rfl⟩:=aF o;have rQ:=ej o;unfold maxLen at rQ;have HIH:=H R;have Ba:=H j;have DA:=H s;have a:=H V;have HP:=H u;have HJ:=H p;have HY:=H M;have HNN:=H L;have qg:=H m;have uW:=H n;have HB:=H h;have HI:=H c;have EU:=(aM.1 V.s).1;have rR:(i:Int)≠(Z f):=O
  clear R V u p M L m n h o c j s;go_in;go_upto_region 1 with fail;generalize o:World.alloc w _=w0;have n:Below (F (X w)) w w0:=by rw[<-o];exact(aZ (F (X w)) w).alloc L9 _
  have V:BV w0 (F (X w)) e:=by rw[<-o];exact BV.new w e
  have R:F (X w0)=F (X w)+1:=by rw[<-o];simp
  have m:=a.rT (bU.bC n);clear o;obtain⟨r,-⟩:=aj m.s 0;obtain⟨W,-⟩:=aj m.s 2;have s:=m.m;have Lp:=H V;have mW:=H n;have zF:=H (BX HJ HP n);have oa:=H R;clear m V n R;go_wp2_with(first|(at_range;refine Kr _ rfl _ 82 rfl underlying82 mb K rfl s ?_;intro w1 n m R)|go_in)
  try go_frame
  obtain⟨o,V⟩:∃o,o=f[i].1:=⟨_,rfl⟩;obtain⟨RS,c⟩:∃RS,RS=(f.drop (i+1)).map (·.1):=⟨_,rfl⟩;have L:(f.drop i).map (·.1)=o::RS:=by rw[V,c,dM Cp,ir]
  have Q:RH T b w mb (F (X w0)) K (q.map (·.1)) o RS e k ((Z K) ^ d) (λ_=>True) [] (Z K) w1:=by have M:Below (F (X w0)) w0 w1:=⟨m.os,m.tape,m.output,m.size,λj h=>m.block j h oS⟩;refine⟨n,bD _,λx=>⟨λh=>absurd h BA,λ⟨p,u,hn,_⟩=>absurd trivial hn⟩,oS,?_,(bU.bC mW).trans (bU.bC M),Lp.ai M⟩;rw[kO];exact BX HJ zF M
  have M:=H L;have v:=H V;have S:=H c;clear n m R s r W L V c
  go_loopg [] (Z K) (λc wr=>∃(Lf:Th->Prop)(ys:List bJ),RH T b w mb (F (X w0)) K (q.map (·.1)) o RS e k ((Z K) ^ d) Lf ys c wr)
  exact⟨_,_,Q⟩
  case round=>
   clear Q;obtain⟨Lf,ys,j⟩:=hrel;have L:=j.rg;have V:=H j;clear j;go_wp2_with(first|(at_next;refine Kq _ rfl _ rfl mb (F (X w0)) K Lf gk rfl L ?_ ?_)|go_in)
   .intro m;have c:=H m;clear m L;go_wp2;go_ret;rw[ag M];have j:=ag V;refine .inl ⟨rfl,ys,λx=>?_,?_,j.j,j.kp⟩
    .rw[j.mem,Pb];exact⟨λ⟨p,u,_,h⟩=>⟨p,u,h⟩,λ⟨p,u,h⟩=>⟨p,u,c p.1.1 p.1.2 p.2 u,h⟩⟩
    refine bf j.len ?_;rw[L7,Nat.mul_comm];exact Nat.mul_le_mul_left _ (Nat.sub_le _ _)
   intro tp F4 n m s EY Co c sH R xv IC;generalize((tp,F4):Th)=t at*;have j:=ag V;have uG:=ag oa;have Q:bU T w m:=j.kp.grown R (λr e1=>.inl (by cases e1;omega));have W:BV m (F (X w)) e:=(R.block _ j.bv.lt oT).trans j.bv;have Wx:b (k++ys) m:=HJ _ _ _ _ j.j R (λr e1=>by cases e1;exact⟨by have:=ag HB;omega,j.rg.XW⟩);have r:=a.rT Q;have D:=H c;have abW:=H Q;have HJ2:=H Wx;have RU:=H r;have RP:=H W;have E:=H EY;have y:=j.len;have z:=H y;have We:=j.cn;have Wt:=sH;have A:=H j.mem;have Sl:=H Co;clear xv L c R Q W Wx r EY y j V Co uG;go_upto_region 6 with fail;generalize y:World.alloc m _=j;have k3:Below (F (X m)) m j:=(by rw[<-y];exact(aZ (F (X m)) m).alloc L9 _);have t3:TV j (F (X m)) t:=(by rw[<-y];exact TV.new m t);have s3:F (X j)=F (X m)+1:=(by rw[<-y];simp);have b3:BV j (F (X w)) e:=RP.ai k3;have R:=RU.rT (bU.bC k3);obtain⟨a0,-⟩:=aj R.s 0;obtain⟨_,c⟩:=R.p.row;obtain⟨g,_,hv,V1,qE,_,_,hc⟩:=gu Em c i Cp;injection hv with V h2 h3
   subst V h3;have r:f[i]∈f:=aN Cp;obtain⟨tb,EZ⟩:=R.p.aq _ r;obtain⟨ta,tc,Aq⟩:=aF EZ;have tJ:=R.p.dc _ r;rw[<-ag v]at tJ;have e0:Ce j (C g (i*2) G)=P (Y o.p):=(by have:=hc 0 O;rw[ag v];exact this);have e1:Ce j (C g (i*2+1) G)=P (U ta (Z o.ts) tc):=(by have:=hc 1 O;rw[ag v,<-Aq];exact this);have L:Ow j tb 191 1 (U ta (Z o.ts) tc) (Z o.ts) (o.ts.map kx):=(by rw[ag v,<-Aq];exact EZ);have SL:=H (show ∀t∈o.ts,t.1=Bt->t.2∈Vs by rw[ag v];exact DA _ r);have HM:=H (λ(W:W8)(Q:Below (F (X j)) j W)=>JH W tb e o ta tc t (gC L (λg e1=>Q.block g (L.lt g e1).2)) tJ Vs hV Ba SL);have HA:=H (λ(W:W8)(Q:Below (F (X j)) j W)=>(show BV W (F (X w)) e/\TV W (F (X m)) t/\Ce W (C sb 0 G)=P (U (P (C g 0 G)) (Z f) cn)/\Ce W (C g (i*2) G)=P (Y o.p)/\Ce W (C g (i*2+1) G)=P (U ta (Z o.ts) tc) from ⟨b3.ai Q,t3.ai Q,(Q.cell (p:=(C sb 0 G)) (by have:=(aM.1 R.s).1;exact this)).trans a0,(Q.cell (p:=(C g (i*2) G)) qE).trans e0,(Q.cell (p:=(C g (i*2+1) G)) qE).trans e1⟩));have agH:∀W:W8,BV W (F (X w)) e->(rf (Vp (P (C (F (X w)) 0 G)))).run prog W=.ok (ig e) W:=λ_ h=>h.load
   have agJ:∀W:W8,TV W (F (X m)) t->(oO (Vp (P (C (F (X m)) 0 G)))).run prog W=.ok (cP t) W:=λ_ h=>h.load
   have zx:=H R;have Q:=H k3;have tK:(i:Int)<Z f:=O;have d1:(F (X w))≠(F (X j)):=(oF b3.lt);have d2:(F (X m))≠(F (X j)):=O;have d3:sb≠(F (X j)):=(oF ((aM.1 R.s).1));have d4:g≠(F (X j)):=O;clear s3;simp only[bt,aT]at a0;clear y k3 R c hc r EZ Aq L h2;obtain⟨R,L⟩:∃R,R=dZ e o t:=⟨_,rfl⟩;rw[<-L]at HM;have HR:=H L;clear L
   go_cut [8,9] from 37 to 59 (λp c wc=>∃nb,p=Vp (P (C nb 0 G))/\c=Vb R.isSome/\BV wc nb (R.getD [])/\Below (F (X j)) j wc)
   case first=>
    go_region_held3 (λW=>BV W (F (X w)) e/\TV W (F (X m)) t/\Ce W (C sb 0 G)=P (U (P (C g 0 G)) (Z f) cn)/\Ce W (C g (i*2) G)=P (Y o.p)/\Ce W (C g (i*2+1) G)=P (U ta (Z o.ts) tc)) ((refine HA _ ?_;first|exact c|exact B9.drew|exact oA.drew|exact c.alloc c.size _|exact mJ c L9 _)) ((go_at_call 62;refine(HM _ (by first|exact B9.drew|exact oA.drew)).mono ?_;rintro en y⟨W,rfl⟩;have c:Below (F (X j)) j y:=(by first|exact jB W|exact BZ oA W);first|(have L:=((BV.new j []).ai (jB W)).store (R.getD []))|skip))
    all_goals
     go_wp2;go_meet
     case rel=>first|exact⟨_,rfl,rfl,BV.new _ _,c.alloc c.size _⟩|exact⟨_,rfl,rfl,kn _ _ _ _ _ _ ((BV.new j []).ai (jB W)),mJ c L9 _⟩
   case rest=>
    generalize wc=wA at*;obtain⟨nb,rfl,rfl,V6,uC⟩:=hcut;have NZ:bU T m wA:=(bU.bC Q).trans (bU.bC uC);have c:Below (F (X m)) m wA:=Q.trans (uC.mono Q.size);have Wy:b (k++ys) wA:=BX HJ HJ2 c;have Xa:n9 wA mb (F (X w0)) K (λx=>Lf x/\¬x=t) s:=D.kT (c.block _ D.map.lt) (c.block _ D.lt);have VB:=RU.rT NZ;have L:=V6.load;have Sf:=H Wy;have W:=H Xa;have RW:=H VB;have y:=H (abW.trans NZ);have RQ:=H (RP.ai c);have szA:=bf y.size L9;have ac6:=H szA;clear V6 uC NZ c Wy Xa VB agH agJ t3 b3 e0 e1 a0 d1 d2 d3 d4 HA HM zx Q szA qE V1 IC
    cases Q:R with
    |none=>
     have c:=H (HR.symm.trans Q);rw[Q]at L;clear Q L;go_wp2;go_roundg s
     case measure=>omega
     case rel=>
      refine⟨_,ys,W,O,λx=>?_,?_,Sf,y,RQ⟩
      .rw[ag A x,AZ.step (ag E)];exact⟨.inl,λh=>h.elim id λ⟨e',V,_⟩=>by rw[ag c]at V;cases V⟩
      exact bf z (yn _ O)
    |some e2=>
     have c:=H (HR.symm.trans Q);rw[Q]at L;have abR:=H (HIH (i+1) e2 wA (k++ys) (oF (ag HI)) RW Sf (bf HB ac6) (Ba.Je SL c) (λe' he'=>qg e' (by rw[ag M,ag S];exact aiI E c he')) (by have V:=ag z;have h2:=ag HNN;have h3:=akp (M:=Z K) (g:=gk) (d:=d) O We;rw[br];omega) (λx r=>HQ x (by rw[ag M,Pb];exact⟨(t,n),E,e2,c,by rw[ag S];exact r⟩)));clear Q;go_wp2_with(go_at_call 234;refine(abR).mono ?_;rintro en w5 (⟨rfl,Q⟩|⟨rfl,Q⟩)<;>(have H5:=H Q;clear Q))
     .go_roundg s
      case measure=>omega
      case rel=>
       obtain⟨zs,dx,cB,uH,Q⟩:=ag H5;obtain⟨_,WT,ho2⟩:=W.XW;obtain⟨_,_,uD⟩:=W.map.isMap;refine⟨_,ys++zs,W.kT ((Q.same _ _ uD RW.nm (.inr rfl)).trans uD.symm) ((Q.same _ _ WT (λhn=>by have:=ag uW _ hn;have:=ag HB;have:=ag oa;omega) (.inr ho2)).trans WT.symm),O,λx=>?_,?_,by rw[<-qT];exact uH,y.trans Q,RQ.rT Q (λhn=>by have:=ag uW _ hn;have:=ag HB;omega)⟩
       .rw[aS,ag A x,AZ.step (ag E),dx,ag S];exact⟨λh=>h.imp id λh=>⟨e2,c,h⟩,λh=>h.imp id λ⟨e',V,h2⟩=>by rw[ag c]at V;cases V;exact h2⟩
       have V:=ag z;have h3:=amG (M:=Z K) (g:=gk) (c:=s) (d:=d) sH We;rw[br];omega
     go_ret;obtain⟨zs,dx,cB⟩:=H5;rw[ag M];refine .inr ⟨rfl,ys++zs,λx r=>?_,by rw[<-qT];exact cB⟩;rw[Pb];rcases aS.1 r with r|r
     .obtain⟨p,u,_,h⟩:=(A x).1 r;exact⟨p,u,h⟩
     exact⟨(t,n),E,e2,c,by rw[ag S];exact dx x r⟩
end
open Go.RowKit Go.Maps
def Zb(w d l i k j f g b)(h:iR w d (U f (Z b) g) b)(o:Z b<=1000):Calls prog 223 #[Va #[Y l,U i k j,U f (Z b) g]] w λe m=>∃a c,e=Vr (U a (b.filter (dJ Bt)).length c)/\Ow m (F (X w)+1) 79 2 (U a (b.filter (dJ Bt)).length c) (b.filter (dJ Bt)).length ((b.filter (dJ Bt)).flatMap nG)/\Below (F (X w)) w m/\(F (X w))<F (X m):=by have m:=(aZ (F (X w)) w).alloc L9 (Vc #[Y l,U i k j,U f (Z b) g] 123);have n:=h.ai m;clear h;go_in;go_wp2_with fail;refine(TS _ d l i k j f g b Bt n o).mono ?_;rintro e r⟨a,c,rfl,p,h,q⟩;go_wp2;go_ret;refine⟨a,c,rfl,aX p oS,m.trans (h.mono oS),by simp at q;omega⟩
def xz(x:dd×V9):du×V9:=(⟨x.1.pd,x.1.ts⟩,x.2)
def dq(b:Bool)(ls:List (dd×V9)):List (du×V9):=(ls.filter (dJ b)).map xz
def OR(b a):(dq b a).flatMap El=(a.filter (dJ b)).flatMap nG:=by unfold dq;rw[yl];rfl
def Fs(b a):(dq b a).length=(a.filter (dJ b)).length:=by unfold dq;simp
variable {a:Nat}{b c:V9}{d:W8}
def MO{k m v f o}(h:iR d v b f)(r:Below (F (X d)) d m)(n:Ow m a 79 2 c (f.filter (dJ o)).length ((f.filter (dJ o)).flatMap nG))(p:∀g,k g->g<a)(t:∀x∈f,∀g,x.2.ownBlock=P g->¬k g)(q:∀x∈f,x.1.ts.length<=4):nx k m c (dq o f):=by
 have j:∀x∈dq o f,∃y∈f,x=xz y:=λx i=>by
  obtain⟨y,w,rfl⟩:=aU.1 i;exact⟨y,(gI.1 w).1,rfl⟩
 refine⟨⟨a,by rw[Fs,OR];exact n⟩,λx i=>?_,λg l s=>?_,λx i g l=>?_,λx i=>?_⟩
 .obtain⟨y,w,rfl⟩:=j x i;exact⟨v,aQ (h.aK y w) r (λg e=>((h.aK y w).lt g e).2)⟩
 .have:=(n.lt g l).1;have:=p g s;omega
 .obtain⟨y,w,rfl⟩:=j x i;exact t y w g l
 obtain⟨y,w,rfl⟩:=j x i;exact q y w
def SV(w:W8)(b:Nat)(pv nv mv fv:V9):Prop:=w.heap[b]?=P (Vc #[pv,nv,mv,fv] 361)
noncomputable def FW(p v:V9):Sem Unit:=Instr.storeAt 361 p v
noncomputable def Qz(h:Bool)(v:V9):Sem V9:=Instr.alloc 361 h v
def anv(p v):Instr.storeAt 361 p v=FW p v:=rfl
def anu(h v):Instr.alloc 361 h v=Qz h v:=rfl
def alM(w v):(Qz Bt v).run prog w=.ok (Vp (P (C (F (X w)) 0 G))) (Al w (Vc #[U G 0 0,U G 0 0,.map G,.nilFunc] 361)):=by unfold Qz;simp[Instr.alloc,newVar,newRow,go_sem]
def ahk:(prog.info? 361).map (·.size)=P 4:=oK
def SV.store{w b n m l f}(h:SV w b n m l f){e d c a}(g:e.oneCell'=Bt)(i:d.oneCell'=Bt)(j:c.oneCell'=Bt)(k:a.oneCell'=Bt):(FW (Vp (P (C b 0 G))) (Va #[e,d,c,a])).run prog w=.ok () (w.setRow b #[e,d,c,a]):=by unfold FW Instr.storeAt Instr.sureAddr;simp only[wV,yq,wU];exact Hc w b _ 361 _ _ h (by rw[ahk];rfl) rfl (by simp[g,i,j,k])
end
section
section
open Go.RowKit Go.Maps
attribute [local go_sem ↓] tW tX wj tF anv anu
attribute [local go_sem] ux xJ alM
variable{d h n o p:Nat}{a f:W8}
def abB{m' b R}(l:YieldAt Fence.wide d prog h b a R):YieldAt Fence.wide m' prog h b a R:=by obtain⟨f,e,W,m,j,g,i⟩:=l;exact⟨f,e,W,m,j,g,λc l _=>i c l (room_wide _)⟩
structure BQ(No:Nat->Prop)(w:W8)(rb xb eb mb:Nat)(pd:B8)(hv bv:V9)(base:Nat)(ls:List (dd×V9))(K:List (Th×Nat))(e:bJ):Prop where
 r:w.heap[rb]?=P (Vc #[Y pd,hv,bv] 123)
 x:w.heap[xb]?=P (Vc #[.map (P mb)] 82)
 b:BV w eb e
 l:iR w base bv ls
 m:bQ w mb K
 nm:¬No mb
 nt:∀x∈ls,∀g,x.2.ownBlock=P g->¬No g
 no:∀g,No g->g<F (X w)
 l3:Z ls<=3
 t4:∀x∈ls,x.1.ts.length<=4
 h:∃a n c,hv=U a n c
variable{k:B8}{c:List (dd×V9)}{m:List (Th×Nat)}{e:Nat->Prop}{q:bJ}{b g i j:V9}
def BQ.ai(w:BQ e a h o d n k b g p c m q)(j:Below (F (X a)) a f):BQ e f h o d n k b g p c m q:=
 ⟨(j.block _ (aM.1 w.r).1).trans w.r,(j.block _ (aM.1 w.x).1).trans w.x,w.b.ai j,w.l.ai j,w.m.block (j.block _ w.m.lt),w.nm,w.nt,λl i=>by have:=w.no l i;have:=j.size;omega,w.l3,w.t4,w.h⟩
def SV.new(w d c b a):SV (Al w (Vc #[d,c,b,a] 361)) (F (X w)) d c b a:=aG w _
def SV.ai(h:SV a d b g i j)(k:Below (F (X a)) a f):SV f d b g i j:=(k.block d (aM.1 h).1).trans h
def SV.put(h:SV a d b j i g)(w k n f c e m l):(FW (Vp (P (C d 0 G))) (Va #[U w n c,U k f e,.map (P m),.func (.yield l) #[] #[]])).run prog a=.ok () (a.setRow d #[U w n c,U k f e,.map (P m),.func (.yield l) #[] #[]]):=h.store rfl rfl rfl rfl
def alR(w i h f e a b n g c d m l):(FW (Vp (P (C (F (X w)) 0 G))) (Va #[U a n c,U b g d,.map (P m),.func (.yield l) #[] #[]])).run prog (Al w (Vc #[i,h,f,e] 361))=.ok () (Al w (Vc #[U a n c,U b g d,.map (P m),.func (.yield l) #[] #[]] 361)):=by rw[(SV.new w i h f e).put,World.setRow_alloc_new]
variable{l:List (du×V9)}
def nx.setRow(h:nx e a b l)(v)(j:∀g,b.ownBlock=P g->g≠d)(k:∀x∈l,∀g,x.2.ownBlock=P g->g≠d):nx e (a.setRow d v) b l:=
 ⟨let ⟨w,hb⟩:=h.row;⟨w,gC hb (λg f=>yr a d g v (j g f))⟩,λx i=>let ⟨w,hb⟩:=h.aq x i;⟨w,gC hb (λg f=>yr a d g v (k x i g f))⟩,h.ap,h.MC,h.dc⟩
def nx.ai(h:nx e a b l)(k:Below (F (X a)) a f):nx e f b l:=h.rT (bU.bC k)
structure Mq(No:Nat->Prop)(W:W8)(ls:List (dd×V9))(sb:Nat)(pv nv:V9)(V:W8):Prop where
 p:nx No V pv (dq Bf ls)
 n:nx No V nv (dq Bt ls)
 pb:∀g,pv.ownBlock=P g->g≠sb
 nb:∀g,nv.ownBlock=P g->g≠sb
 tb:∀x∈ls,∀g,x.2.ownBlock=P g->g<F (X W)
 k:Below (F (X W)) W V
def Ft{b x}(a:x∈dq b c):∃y∈c,x=xz y:=by obtain⟨y,d,rfl⟩:=aU.1 a;exact⟨y,(gI.1 d).1,rfl⟩
def Mq.set{c W i b k j V}(h:Mq c W i b k j V)(l:F (X W)<=b)(a):nx c (V.setRow b a) k (dq Bf i)/\nx c (V.setRow b a) j (dq Bt i)/\Below (F (X W)) W (V.setRow b a):=
 ⟨h.p.setRow a h.pb (λx e g d=>by obtain⟨y,f,rfl⟩:=Ft e;have:=h.tb y f g d;omega),h.n.setRow a h.nb (λx e g d=>by obtain⟨y,f,rfl⟩:=Ft e;have:=h.tb y f g d;omega),mJ h.k l a⟩
def Qs{A}(W:BQ e a d h p o k b g A c m q)(l:Below (F (X a)) a f){s}(r:Ow f (s+1) 79 2 j (c.filter (dJ Bf)).length ((c.filter (dJ Bf)).flatMap nG))(K:Ow f (n+1) 79 2 i (c.filter (dJ Bt)).length ((c.filter (dJ Bt)).flatMap nG))(B:F (X a)<=s)(D:F (X a)<=n)(z)(w:∀u,j.ownBlock=P u->u≠z)(v:∀u,i.ownBlock=P u->u≠z):Mq e a c z j i f:=
 ⟨MO W.l l r (λu y=>by have:=W.no u y;omega) W.nt W.t4,MO W.l l K (λu y=>by have:=W.no u y;omega) W.nt W.t4,w,v,λx t u y=>((W.l.aK x t).lt u y).2,l⟩
def aY(ls:List (dd×V9)):List du:=(dq Bf ls).map (·.1)
def jj(ls:List (dd×V9)):List du:=(dq Bt ls).map (·.1)
abbrev kS(K:List (Th×Nat))(ls:List (dd×V9))(e:bJ):={ x:bJ // x∈jn K (jj ls) (aY ls) e }
def uN(ls:List (dd×V9)):List B8:=(aY ls).flatMap λx=>x.ts.map (·.2)
def JJ{x}(a:x∈aY c){t}(b:t∈x.ts):t.2∈uN c:=gh.2 ⟨x,a,fW b⟩
def U7{α β:Type}{f:α->List β}{n:Nat}:∀(l:List α),(∀x∈l,(f x).length<=n)->(l.flatMap f).length<=n*Z l
 | [],_=>by simp
 |x::l,h=>by
  have a:=h x bz;have x:=U7 l (λy l=>h y (bG _ l));rw[lY,br,ff,Nat.mul_succ];omega
def JI(b:Z c<=3)(a:∀x∈c,x.1.ts.length<=4):(uN c).length<=12:=by
 have g:=U7 (n:=4) (f:=λx:du=>x.ts.map (·.2)) (aY c) (λx d=>by
  obtain⟨_,e,rfl⟩:=aU.1 d;obtain⟨z,f,rfl⟩:=Ft e;rw[bF]
  exact a z f)
 have h:(aY c).length<=3:=by unfold aY;rw[bF,Fs];exact bf (qU _ _) b
 unfold uN;omega
def apv(y n w i S eb j R hv bv f b K e)(h:BQ y w i S eb j R hv bv f b K e)(Q:∀e'∈gn K (aY b) e,∀x∈jj b,fY (bM e' x))(N:iY (uN b) e):SeqStopsK Fence.wide n prog 233 #[Vp (P (C i 0 G)),Vp (P (C S 0 G)),Vp (P (C eb 0 G))] (λx:kS K b e=>#[ig x.1]) (bU y) (λl=>∀x,x∈l) (λ_=>True) ((Z K) ^ (aY b).length) w:=by
 intro l J' Jx' W hW q M hY E;have t:=h.ai hW;obtain⟨a,p⟩:∃a:List bJ->W8->Prop,a=λu V=>∃c:List (kS K b e),c.map (·.1)=u/\J' c V:=⟨_,rfl⟩
 obtain⟨T,g⟩:∃T:List bJ->W8->Prop,T=λu V=>∃c:List (kS K b e),c.map (·.1)=u/\Jx' c V:=⟨_,rfl⟩
 have hJ:AbidesFrom (F (X W)) a:=λs A B o m d r=>by
  rw[p]at m⊢;obtain⟨D,k,h2⟩:=m;exact⟨D,k,q D A B o h2 d r⟩
 have B:a [] W:=by rw[p];exact⟨[],rfl,E⟩
 have o:Mp y l ((Z K) ^ (aY b).length) (λx=>x∈jn K (jj b) (aY b) e) a T:=λm u x A r k h2=>by
  rw[p]at k;obtain⟨D,m,k⟩:=k;refine abB (YieldAt.mono (hY D ⟨x,r⟩ A k (by rw[<-m,bF]at h2;exact h2)) ?_);rintro en L (⟨rfl,A,h4⟩|⟨rfl,A⟩)
  .exact⟨Bt,rfl,λ_=>⟨by rw[p];exact⟨D++[⟨x,r⟩],by simp[m],A⟩,h4⟩,λh=>by cases h⟩
  exact⟨Bf,rfl,(λh=>by cases h),λ_=>by rw[g];exact⟨D++[⟨x,r⟩],by simp[m],A⟩⟩
 have HJD:=H p;have L:=H g;refine callsIn_wide.2 ?_;obtain⟨ab,cb,rfl⟩:=aF h.l.row;obtain⟨ah,nh,ch,rfl⟩:=h.h;obtain⟨c0,-⟩:=aj t.r 0;obtain⟨c1,-⟩:=aj t.r 1;obtain⟨c2,-⟩:=aj t.r 2;obtain⟨d0,-⟩:=aj t.x 0;have l3:=t.l3;have z:=(aM.1 t.r).1;have pt:=(aM.1 t.x).1;have v:=H t;have HJ:=H hJ;have HR:=H o;have HH0:=H B;have qg:=H Q;have Ba:=H N;simp only[bt,aT,bx]at c0 c1 c2 d0;have HP:=H (λ(V:W8)(m:Below (F (X W)) W V)=>FL V f R ah nh ch ab cb b (t.l.ai m) O);have HN:=H (λ(V:W8)(m:Below (F (X W)) W V)=>Zb V f R ah nh ch ab cb b (t.l.ai m) O);have HA:=H (λ(V:W8)(m:Below (F (X W)) W V)=>(show V.cell? (C i 0 G)=P (Y R)/\V.cell? (C i 1 G)=P (U ah nh ch)/\V.cell? (C i 2 G)=P (U ab (Z b) cb)/\V.cell? (C S 0 G)=P (.map (P j)) from ⟨(m.cell (p:=(C i 0 G)) z).trans c0,(m.cell (p:=(C i 1 G)) z).trans c1,(m.cell (p:=(C i 2 G)) z).trans c2,(m.cell (p:=(C S 0 G)) pt).trans d0⟩));clear h t o hJ q M hY B E Q N hW p g;go_in;go_upto_region 0 with fail
 go_cut [5] from 6 to 15 (λp wc=>∃E Q N,p=Vp (P (C E 0 G))/\(F (X W))<=E/\SV wc E Q N (.map (P j)) (.func (.yield l) #[] #[])/\nx y wc Q (dq Bf b)/\nx y wc N (dq Bt b)/\Below (F (X W)) W wc)
 case first=>
  have hsn:=alR
  go_region_held3 (λV=>V.cell? (C i 0 G)=P (Y R)/\V.cell? (C i 1 G)=P (U ah nh ch)/\V.cell? (C i 2 G)=P (U ab (Z b) cb)/\V.cell? (C S 0 G)=P (.map (P j))) ((refine HA _ ?_;first|exact B9.drew|exact oA.drew|exact p|exact p.alloc p.size _|exact t|exact t.alloc t.size _|exact mJ t L9 _|exact mJ t p.size _)) ((first
   | (go_at_call 164;refine(HP _ (by first|exact B9.drew|exact oA.drew)).mono ?_;rintro en M⟨a4,c4,rfl,h,q,_⟩;have p:Below (F (X W)) W M:=(by first|exact jB q|exact BZ oA q);have m:=H h;clear h)
   | (go_at_call 223;refine(HN _ (by first|exact p|exact p.alloc p.size _)).mono ?_;rintro en w5⟨a5,c5,rfl,s,h,_⟩;have t:Below (F (X W)) W w5:=(by first|exact p.trans (h.mono p.size)|exact(p.alloc p.size _).trans (h.mono (by simp;have:=p.size;omega)));have Bl:=H s;clear s;first|(have s:=(((SV.new W _ _ _ _).ai (jB q)).ai h).put a4 a5 (b.filter (dJ Bf)).length (b.filter (dJ Bt)).length c4 c5 j l)|(have s:=((SV.new M _ _ _ _).ai h).put a4 a5 (b.filter (dJ Bf)).length (b.filter (dJ Bt)).length c4 c5 j l)|skip)))
  all_goals
   go_wp2;go_meet
   case rel=>
    have s:=ag Bl
    first
     | (have B:=aQ m h (λg e=>(m.lt g e).2);have o:=Qs v t B s L9 p.size (F (X w5)) (λg d=>by have:=(B.lt g d).2;omega) (λg d=>by have:=(s.lt g d).2;omega);exact⟨_,_,_,rfl,t.size,SV.new _ _ _ _ _,o.p.ai oA,o.n.ai oA,t.alloc t.size _⟩)
     | (have B:=aQ m ((((aZ _ M).alloc L9 _)).trans (h.mono oS)) (λg e=>(m.lt g e).2);have o:=Qs v t B s L9 (by simp;have:=p.size;omega) (F (X M)) (λg d=>by have:=(m.lt g d).2;omega) (λg d=>by have:=(s.lt g d).1;simp at this;omega);obtain⟨q1,q2,q3⟩:=o.set p.size #[U a4 (b.filter (dJ Bf)).length c4,U a5 (b.filter (dJ Bt)).length c5,.map (P j),.func (.yield l) #[] #[]];exact⟨_,_,_,rfl,p.size,kn _ _ _ _ _ _ ((SV.new M _ _ _ _).ai h),q1,q2,q3⟩)
     | (have B:=aQ m h (λg e=>(m.lt g e).2);have o:=Qs v t B s oS p.size (F (X W)) (λg d=>by have:=(B.lt g d).1;simp at this;omega) (λg d=>by have:=(s.lt g d).1;have:=p.size;omega);obtain⟨q1,q2,q3⟩:=o.set L9 #[U a4 (b.filter (dJ Bf)).length c4,U a5 (b.filter (dJ Bt)).length c5,.map (P j),.func (.yield l) #[] #[]];exact⟨_,_,_,rfl,bD _,kn _ _ _ _ _ _ (((SV.new W _ _ _ _).ai (jB q)).ai h),q1,q2,q3⟩)
 case rest=>
  obtain⟨E,Q,N,rfl,_,B,q,p,m⟩:=hcut;have h:=v.ai m;have s:=v.no;have d:zv y wc E j l (dq Bf b) (dq Bt b) Q N K:=⟨B,λM=>by have:=s _ M;omega,q,p,h.m,h.nm,by rw[Fs];exact bf (qU _ _) h.l3⟩;have M:(aY b).length=(dq Bf b).length:=by unfold aY;simp
  have g:=H (ag1 y E j l (dq Bf b) (dq Bt b) Q N K (λx=>x∈jn K (jj b) (aY b) e) a T (F (X W)) ((Z K) ^ (aY b).length) HJ HR s (uN b) (JI v.l3 v.t4) (λx r t ht _=>JJ (fW r) ht) (dq Bf b).length 0 e wc [] (lZ _) d (BX HJ HH0 m) m.size Ba (λe' t x r=>qg e' t x.1 (fW r)) (by rw[M];simp) (λx r=>r));have r:=h.b.load;clear h d B q p;go_wp2_with(go_at_call 234;refine(g).mono ?_;rintro en t (⟨rfl,p⟩|⟨rfl,p⟩)<;>(have q:=H p;clear p))
  .go_end0;obtain⟨d,k,_,A,_⟩:=ag q;rw[ql,ag HJD]at A;obtain⟨h,B,A⟩:=A;refine⟨⟨_,rfl⟩,.inl ⟨h,λx=>?_,A⟩⟩;have h4:x.1∈h.map (·.1):=(by rw[B];exact(k x.1).2 x.2);obtain⟨_,x,p⟩:=aU.1 h4;rw[<-Subtype.ext p];exact x
  go_end0;obtain⟨d,k,A⟩:=q;rw[ql,ag L]at A;obtain⟨h,B,A⟩:=A;exact⟨⟨_,rfl⟩,.inr ⟨h,trivial,A⟩⟩
end
section
open Go.RowKit Go.Maps
attribute [local go_sem ↓] tW tX wj tF
attribute [local go_sem] ux xJ
def Mn(No:Nat->Prop)(w:W8)(mb:Nat)(pd:B8)(hv bv:V9)(base:Nat)(ls:List (dd×V9))(K:List (Th×Nat))(e:bJ)(en:Ending)(w':W8):Prop:=
 ∃rb xb eb,en=Vr (.func (.func 233) #[] #[Vp (P (C rb 0 G)),Vp (P (C xb 0 G)),Vp (P (C eb 0 G))])/\Below (F (X w)) w w'/\BQ No w' rb xb eb mb pd hv bv base ls K e
structure xd(No:Nat->Prop)(w:W8)(mb:Nat)(hv bv:V9)(base:Nat)(ls:List (dd×V9))(K:List (Th×Nat)):Prop where
 l:iR w base bv ls
 m:bQ w mb K
 nm:¬No mb
 nt:∀x∈ls,∀g,x.2.ownBlock=P g->¬No g
 no:∀g,No g->g<F (X w)
 l3:Z ls<=3
 t4:∀x∈ls,x.1.ts.length<=4
 h:∃a n c,hv=U a n c
def xd.ai{b w i f d c a e K}(h:xd b w f d c a e K)(k:Below (F (X w)) w i):xd b i f d c a e K:=
 ⟨h.l.ai k,h.m.block (k.block _ h.m.lt),h.nm,h.nt,λg j=>by have:=h.no g j;have:=k.size;omega,h.l3,h.t4,h.h⟩
def abp(q w g i o l b f K e)(h:xd q w g o l b f K):Calls prog 200 #[ig e,Va #[Y i,o,l],.map (P g)] w (Mn q w g i o l b f K e):=by
 obtain⟨k,p,n,rfl⟩:=h.h;obtain⟨j,m,rfl⟩:=aF h.l.row;have a:=H h;clear h;have c:=H (BV.new w e);obtain⟨d,h⟩:∃d,d=(CJ e).toArray:=⟨_,rfl⟩;unfold ig;rw[<-h]at c⊢;clear h;go_in;go_wp2;go_ret;have r:Below (F (X w)) w (Al (Al (Al w (Vc d 135)) (Vc #[Y i,U k p n,U j (Z f) m] 123)) (Vc #[.map (P g)] 82)):=
  (((aZ (F (X w)) w).alloc L9 _).alloc oS _).alloc oW _
 have h:=a.ai r;refine⟨_,_,_,rfl,r,⟨?_,?_,?_,h.l,h.m,h.nm,h.nt,h.no,h.l3,h.t4,h.h⟩⟩
 .rw[aW _ _ _ oS];have:=aG (Al w (Vc d 135)) (Vc #[Y i,U k p n,U j (Z f) m] 123);rw[bL]at this;exact this
 .have:=aG (Al (Al w (Vc d 135)) (Vc #[Y i,U k p n,U j (Z f) m] 123)) (Vc #[.map (P g)] 82);rw[bL,bL]at this;exact this
 exact(c.alloc _).alloc _
def abr(f w c d j i a b K)(h:xd f w c j i a b K):Calls prog 145 #[Va #[Y d,j,i],.map (P c)] w (Mn f w c d j i a b K []):=by obtain⟨o,r,q,rfl⟩:=h.h;obtain⟨n,p,rfl⟩:=aF h.l.row;have g:=(aZ (F (X w)) w).alloc L9 (Vc #[Y d,U o r q,U n (Z b) p] 123);have l:=H (abp f _ c d _ _ a b K [] (h.ai g));have e:=H g;clear h g;go_in;go_wp2_with(go_at_call 200;refine(l).mono ?_;rintro s t⟨_,_,_,rfl,g,h⟩;have k:=H g;have m:=H h;clear g h);go_ret;exact⟨_,_,_,rfl,e.trans (k.mono oS),m⟩
end
open Go.RowKit Go.Maps
def JK(r:PR):Z r.cells=3:=rfl
def cq(r:PR):du:=⟨r.R.pd,r.R.ts⟩
def qn(rs:List PR)(K:List (Th×Nat))(t:Th):Prop:=bK K t=G/\∃r∈rs,∃e∈jn K (jj r.bs) (aY r.bs) [],bM e (cq r)=t
structure Hl(K:List (Th×Nat))(r:PR):Prop where
 l3:Z r.bs<=3
 t4:∀x∈r.bs,x.1.ts.length<=4
 h4:Z r.R.ts<=4
 neg:∀e∈gn K (aY r.bs) [],∀x∈jj r.bs,fY (bM e x)
 hd:∀e∈gn K (aY r.bs) [],fY (bM e (cq r))
 len:∀e∈gn K (aY r.bs) [],Z e<=12
structure yv(rs:List PR)(K:List (Th×Nat))(done:List PR)(r:PR)(pre:List bJ)(h:Nat)(L:List (Th×Nat)):Prop where
 hs:∀p∈L,p.2=h
 nd:(L.map (·.1)).Nodup
 new:∀p∈L,qn rs K p.1
 all:∀q∈done,∀e∈jn K (jj q.bs) (aY q.bs) [],bK K (bM e (cq q))=G->(bK L (bM e (cq q))).isSome=Bt
 now:∀e∈pre,bK K (bM e (cq r))=G->(bK L (bM e (cq r))).isSome=Bt
def ack(w:W8)(rs:List PR)(K:List (Th×Nat))(h limit:Nat)(en:Ending)(w':W8):Prop:=
 Below (F (X w)) w w'/\((∃fb L,en=Vr (Vt #[.map (P fb),Vb Bt])/\(F (X w))<=fb/\bQ w' fb L/\(∀p∈L,p.2=h)/\(∀t,(bK L t).isSome=Bt↔qn rs K t)/\(Z K)+Z L<=limit) \/
  (en=Vr (Vt #[.map G,Vb Bf])/\∃L:List Th,L.Nodup/\(∀t∈L,qn rs K t)/\limit<Z K+Z L))
structure oY(w:W8)(kb fb h limit:Nat)(K L:List (Th×Nat))(wr:W8):Prop where
 k4:wr.heap[F (X w)]?=P (Vc #[.map (P kb)] 83)
 h6:wr.heap[F (X w)+1]?=P (Vc #[I J (h:Nat)] 3)
 l7:wr.heap[F (X w)+1+1]?=P (Vc #[I J (limit:Nat)] 3)
 r8:wr.heap[F (X w)+1+1+1]?=P (Vc #[.map G] 83)
 o9:wr.heap[F (X w)+1+1+1+1]?=P (Vc #[Vb Bf] 4)
 yJ:wr.heap[F (X w)+1+1+1+1+1+1]?=P (Vc #[.map (P fb)] 83)
 fe:fb=F (X w)+1+1+1+1+1
 mK:bQ wr kb K
 mF:bQ wr fb L
 kl:kb<F (X w)
 bw:Below (F (X w)) w wr
variable {b d:List (Th×Nat)}{a f h j:Nat}{c e g:W8}
def oY.grown(x:oY e f j h a b d g){row}(wr:g.grownBy c row)(L:∀r,row=P r->F (X e)+1+1+1+1+1+1<r):oY e f j h a b d c:=by
 have r:∀i,i<=F (X e)+1+1+1+1+1+1->c.heap[i]?=g.heap[i]?:=λi K=>wr.block i (oF ((aM.1 x.yJ).1)) (λw=>by have:=L i w.symm;omega)
 have k:=x.kl;have w:=x.fe;exact⟨(r _ O).trans x.k4,(r _ O).trans x.h6,(r _ O).trans x.l7,(r _ O).trans x.r8,(r _ O).trans x.o9,(r _ O).trans x.yJ,x.fe,x.mK.block (r _ O),x.mF.block (r _ O),x.kl,⟨wr.os.trans x.bw.os,wr.tape.trans x.bw.tape,wr.output.trans x.bw.output,bf x.bw.size wr.size,λi K=>(r i O).trans (x.bw.block i K)⟩⟩
def oY.ai(x:oY c f j h a b d e)(k:Below (F (X e)) e g):oY c f j h a b d g:=x.grown (row:=G) ⟨k.os,k.tape,k.output,k.size,λi w _=>k.block i w⟩ (λ_ w=>by cases w)
def oY.start(w b h a K)(c:bQ w b K):oY w b (F (X w)+1+1+1+1+1) h a K [] (Al (Al (Al (Al (Al (Al (Al w (Vc #[.map (P b)] 83)) (Vc #[I J (h:Nat)] 3)) (Vc #[I J (a:Nat)] 3)) (Vc #[.map G] 83)) (Vc #[Vb Bf] 4)) (.map #[] 0)) (Vc #[.map (P (F (X w)+1+1+1+1+1))] 83)):=by
 have d:Below (F (X w)) w (Al (Al (Al (Al (Al (Al (Al w (Vc #[.map (P b)] 83)) (Vc #[I J (h:Nat)] 3)) (Vc #[I J (a:Nat)] 3)) (Vc #[.map G] 83)) (Vc #[Vb Bf] 4)) (.map #[] 0)) (Vc #[.map (P (F (X w)+1+1+1+1+1))] 83)):=
  (((((((aZ (F (X w)) w).alloc L9 _).alloc oS _).alloc oW _).alloc oW _).alloc oW _).alloc oW _).alloc oW _
 refine⟨?_,?_,?_,?_,?_,?_,rfl,c.block (d.block _ c.lt),?_,c.lt,d⟩
 .rw[aW _ _ _ oW,aW _ _ _ oW,aW _ _ _ oW,aW _ _ _ oW,aW _ _ _ oW,aW _ _ _ oS];exact aG w _
 .rw[aW _ _ _ oW,aW _ _ _ oW,aW _ _ _ oW,aW _ _ _ oW,aW _ _ _ oS];have:=aG (Al w (Vc #[.map (P b)] 83)) (Vc #[I J (h:Nat)] 3);simpa only[bL]using this
 .rw[aW _ _ _ oW,aW _ _ _ oW,aW _ _ _ oW,aW _ _ _ oS];have:=aG (Al (Al w (Vc #[.map (P b)] 83)) (Vc #[I J (h:Nat)] 3)) (Vc #[I J (a:Nat)] 3);simpa only[bL]using this
 .rw[aW _ _ _ oW,aW _ _ _ oW,aW _ _ _ oS];have:=aG (Al (Al (Al w (Vc #[.map (P b)] 83)) (Vc #[I J (h:Nat)] 3)) (Vc #[I J (a:Nat)] 3)) (Vc #[.map G] 83);simpa only[bL]using this
 .rw[aW _ _ _ oW,aW _ _ _ oS];have:=aG (Al (Al (Al (Al w (Vc #[.map (P b)] 83)) (Vc #[I J (h:Nat)] 3)) (Vc #[I J (a:Nat)] 3)) (Vc #[.map G] 83)) (Vc #[Vb Bf] 4);simpa only[bL]using this
 .have:=aG (Al (Al (Al (Al (Al (Al w (Vc #[.map (P b)] 83)) (Vc #[I J (h:Nat)] 3)) (Vc #[I J (a:Nat)] 3)) (Vc #[.map G] 83)) (Vc #[Vb Bf] 4)) (.map #[] 0)) (Vc #[.map (P (F (X w)+1+1+1+1+1))] 83);simpa only[bL]using this
 have:=(bQ.made (Al (Al (Al (Al (Al w (Vc #[.map (P b)] 83)) (Vc #[I J (h:Nat)] 3)) (Vc #[I J (a:Nat)] 3)) (Vc #[.map G] 83)) (Vc #[Vb Bf] 4))).alloc (Vc #[.map (P (F (X w)+1+1+1+1+1))] 83);simpa only[bL]using this
def Ux(ds:List Nat):List Deferred:=ds.map λD=>{ target:=.collected D,args:=#[] }
structure BO(w:W8)(ds:List Nat)(wr:W8):Prop where
 nd:ds.Nodup
 aC:∀D∈ds,F (X w)+1+1+1+1+1+1<D/\wr.heap[D]?=P (.deferred (P []))
def I7{f}(W l o d)(h:W.heap[l]?=P o)(g:o.isCells=Bf)(i:o.isWalk=Bf):bU f W (W.putObj l d):=by
 have b:=grownBy_putObj' W l d;refine⟨b.os,b.tape,b.output,b.size,λk e c _ a=>?_⟩;rw[World.putObj_heap_other (λe=>?_)]
 .exact c
 subst e;rw[h]at c
 cases c
 rcases a with a|a
 .rw[g]at a;cases a
 rw[i]at a;cases a
structure acN(ds:List Nat)(w w':W8):Prop where
 os:w'.os=w.os
 tape:w'.tape=w.tape
 output:w'.output=w.output
 size:F (X w')=F (X w)
 block:∀i,i∉ds->w'.heap[i]?=w.heap[i]?
variable {n:Array V9}
def zi{b:Program}{d:Func}{R:Ending->W8->Prop}:∀(E:List Nat)(w:W8),E.Nodup->(∀D∈E,w.heap[D]?=P (.deferred (P [])))->(∀e,acN E w e->LeavesIn Fence.wide a b d n R [] .returning e)->LeavesInM Fence.wide a b d n R (Ux E) .returning w
 | [],w,_,_,h=>h w ⟨rfl,rfl,rfl,rfl,λ_ _=>rfl⟩
 |D::E,w,hn,hD,h=>by
  obtain⟨f,g⟩:=wN.1 hn;refine⟨oS,.inl ⟨D,_,rfl,run_takeDeferred (hD D bz),?_⟩⟩;refine zi E _ g (λE i=>?_) (λe c=>h e ?_)
  .rw[World.putObj_heap_other (λe=>f (by rw[<-e];exact i))];exact hD E (bG _ i)
  have E:=grownBy_putObj' w D (.deferred G);exact⟨c.os.trans E.os,c.tape.trans E.tape,c.output.trans E.output,c.size.trans oS,λi D=>(c.block i (λi=>D (bG _ i))).trans (World.putObj_heap_other (λe=>D (by rw[e];exact bz)))⟩
def oY.xQ{l}(x:oY c a f h j b d e)(K:e.grownBy g (P f))(m:bQ g f l):oY c a f h j b l g:=by
 have o:=x.kl;have n:=x.fe;have w:∀i,i<=F (X c)+1+1+1+1+1+1->i≠f->g.heap[i]?=e.heap[i]?:=λi k wr=>K.block i (oF ((aM.1 x.yJ).1)) (λL=>wr (by cases L;rfl))
 exact⟨(w _ O O).trans x.k4,(w _ O O).trans x.h6,(w _ O O).trans x.l7,(w _ O O).trans x.r8,(w _ O O).trans x.o9,(w _ O O).trans x.yJ,x.fe,x.mK.block (w _ O O),m,x.kl,⟨K.os.trans x.bw.os,K.tape.trans x.bw.tape,K.output.trans x.bw.output,bf x.bw.size K.size,λi k=>(w i O O).trans (x.bw.block i k)⟩⟩
def QE{t d v}(h:c.heap[a]?=P (Vc n t d))(l:n[j]?=P v):(Sc c (C a j G) v)=c:=by
 rw[vg c a j n t d v h];have e:n.setIfInBounds j v=n:=by
  apply DE;intro i;rw[SU]
  split
  .rename_i e;subst e;have:=(aM.1 l).1;rw[aD this,l]
  rfl
 rw[e];have b:a<F (X c):=(aM.1 h).1;have f:c.heap[a]=Vc n t d:=(aM.1 h).2;unfold World.setRow
 cases c with
 |mk g tape W q i=>
  congr 1
  apply GF
  .simp
  intro k o p;simp only[Array.getElem_modify]
  split
  .rename_i m;subst m;simp at f;simp[f]
  rfl
variable {o:List bJ}{i l:List PR}{p:bJ}{m:PR}
def yv.old(x:yv i b l m o h d)(f:(bK b (bM p (cq m))).isSome=Bt):yv i b l m (o++[p]) h d:=
 ⟨x.hs,x.nd,x.new,x.all,λy g a=>by
  rcases aS.1 g with g|g
  .exact x.now y g a
  rw[bu.1 g]at a;rw[a]at f;cases f⟩
def Yv(n:(b.map (·.1)).Nodup){t s}(h:(bK b s).isSome=Bt):(bK (kh b t a) s).isSome=true:=by
 obtain⟨_,L⟩:=tq.1 h
 by_cases e:s=t
 .subst e;rw[sL (FN n) (O9 b s a)];rfl
 rw[sL (FN n) (YP (rU L) e)];rfl
def yv.put{pre}(x:yv i b l m pre h d){e}(k:m∈i)(g:e∈jn b (jj m.bs) (aY m.bs) [])(f:bK b (bM e (cq m))=G):yv i b l m (pre++[e]) h (kh d (bM e (cq m)) h):=by
 refine⟨λp c=>?_,FN x.nd,λp c=>?_,λq j y K a=>Yv x.nd (x.all q j y K a),λy K a=>?_⟩
 .rcases JL c with rfl|⟨c,_⟩
  .rfl
  exact x.hs p c
 .rcases JL c with rfl|⟨c,_⟩
  .exact⟨f,m,k,e,g,rfl⟩
  exact x.new p c
 rcases aS.1 K with K|K
 .exact Yv x.nd (x.now y K a)
 rw[bu.1 K,sL (FN x.nd) (O9 d _ h)];rfl
structure BP(w:W8)(kb h limit:Nat)(K:List (Th×Nat))(rs done:List PR)(r:PR)(b12:Nat)(ah ab:O8)(ch cb:Nat)(ds:List Nat)(pre:List bJ)(L:List (Th×Nat))(W:W8):Prop where
 box:oY w kb (F (X w)+1+1+1+1+1) h limit K L W
 new:yv rs K done r pre h L
 len:Z K+Z L<=limit
 nQ:BO w ds W
 rl:W.heap[b12]?=P (Vc #[Y r.R.pd,U ah (Z r.R.ts) ch,U ab (Z r.bs) cb] 123)
structure Hf(w:W8)(kb h limit:Nat)(K:List (Th×Nat))(rs:List PR)(ds:List Nat)(L:List (Th×Nat))(W:W8):Prop where
 box:oY w kb (F (X w)+1+1+1+1+1) h limit K L W
 nd:(L.map (·.1)).Nodup
 new:∀p∈L,qn rs K p.1
 len:limit<Z K+Z L
 nQ:BO w ds W
variable {k:List Nat}
def BO.grown(h:BO c k e){row}(w:e.grownBy g row)(d:∀r,row=P r->∀D∈k,D<r):BO c k g:=
 ⟨h.nd,λD r=>⟨(h.aC D r).1,(w.block D (aM.1 (h.aC D r).2).1 (λa=>by have:=d D a.symm D r;omega)).trans (h.aC D r).2⟩⟩
def BP.grown{K p r n}(x:BP c f h a b i l m j K p r n k o d e){row}(W:e.grownBy g row){B}(q:∀w,row=P w->B<=w)(u:F (X c)+1+1+1+1+1+1<B)(v:j<B)(s:∀D∈k,D<B):BP c f h a b i l m j K p r n k o d g:=
 ⟨x.box.grown W (λw L=>by have:=q w L;omega),x.new,x.len,x.nQ.grown W (λw L D t=>by have:=q w L;have:=s D t;omega),(W.block _ (aM.1 x.rl).1 (λL=>by have:=q _ L.symm;omega)).trans x.rl⟩
def Hf.grown(x:Hf e f h a b i k d g){row}(W:g.grownBy c row){B}(K:∀j,row=P j->B<=j)(m:F (X e)+1+1+1+1+1+1<B)(L:∀D∈k,D<B):Hf e f h a b i k d c:=
 ⟨x.box.grown W (λj w=>by have:=K j w;omega),x.nd,x.new,x.len,x.nQ.grown W (λj w D l=>by have:=K j w;have:=L D l;omega)⟩
def BV.grown(h:BV c a p){row}(f:c.grownBy e row)(g:∀i,row=P i->∃o,c.heap[i]?=P o/\o.isCells=Bf):BV e a p:=
 (f.block a h.lt (λW=>by obtain⟨o,i,d⟩:=g a W.symm;rw[show c.heap[a]?=_ from h]at i;cases i;cases d)).trans h
abbrev sj:=B8×B8
def iV(E:List sj)(p:B8):List B8:=(E.filter λe=>e.1.toList==p.toList).map (·.2)
def oL(l:List B8):V8:=l.map Y
def vv(pd:B8)(l:List dd):List sj:=l.map λx=>(pd,x.pd)
def jS(rs:List iu):List sj:=rs.flatMap λR=>vv R.pd R.body
def ann(E p q):iV (E++[(p,q)]) p=iV E p++[q]:=by simp[iV]
variable {f:B8}{b:List sj}
def aaY{q x}(h:x≠f):iV (b++[(f,q)]) x=iV b x:=by
 have a:¬f.toList=x.toList:=λe=>h (kJ.1 (oU e.symm))
 simp[iV,a]
def anm(E p):(iV E p).length<=Z E:=by simp only[iV,bF];exact qU _ _
structure Lk(b n:Nat)(E:List sj)(V:B8->Option V9)(wr:W8):Prop where
 map:dt prog 9 wr b n V
 xH:∀p v,V p=P v->Ow wr (b+1) 9 1 v (iV E p).length (oL (iV E p))
 Pt:∀p,V p=G->iV E p=[]
 Mz:∀p q v u,V p=P v->V q=P u->p≠q->v.ownBlock=G\/v.ownBlock≠u.ownBlock
variable {c:B8->Option V9}{d:Nat}{h:W8}
def Lk.ai(wr:Lk a d b c e)(n:Below (F (X e)) e h):Lk a d b c h:=
 ⟨wr.map.block (n.block _ wr.map.lt),λp v E=>aQ (wr.xH p v E) n (λg V=>((wr.xH p v E).lt g V).2),wr.Pt,wr.Mz⟩
def Lk.aC(h:Lk a d b c e)(p):Ow e (a+1) 9 1 ((c p).getD (U G 0 0)) (iV b p).length (oL (iV b p)):=by
 cases n:c p with
 |none=>rw[h.Pt p n];exact dm _ _ _ _
 |some v=>exact h.xH p v n
def Lk.put{b n E V wr A z}(h:Lk b n E V wr){p q v'}(l:wr.grownBy A ((V p).getD (U G 0 0)).ownBlock)(t:Ow A (b+1) 9 1 v' ((iV E p).length+1) (oL (iV E p)++[Y q])) (o:v'.ownBlock=((V p).getD (U G 0 0)).ownBlock\/v'.ownBlock=P (F (X wr)))(r:dt prog 9 z b (n+1) (tY V p v')) (c:A.grownBy z (P b)):Lk b (n+1) (E++[(p,q)]) (tY V p v') z/\ak (b::((V p).getD (U G 0 0)).ownBlock.toList) wr z:=by
 have D:=h.aC p;have s:∀x v,V x=P v->x≠p->v.ownBlock=G\/v.ownBlock≠((V p).getD (U G 0 0)).ownBlock:=λx v a i=>by
  cases d:V p with
  |none=>cases v.ownBlock<;>simp[Value.ownBlock]
  |some u=>exact h.Mz x p v u a d i
 have d:∀{v:V9} {m:Nat} {e:V8},Ow A (b+1) 9 1 v m e->Ow z (b+1) 9 1 v m e:=λ{v m e} a=>gC a (λg e=>c.block g ((a.lt g e).2) (by have:=(a.lt g e).1;simp;omega))
 have f:∀x v,V x=P v->x≠p->v.ownBlock=G\/v.ownBlock≠v'.ownBlock:=λx v a i=>by
  rcases o with j|j
  .rw[j];exact s x v a i
  cases k:v.ownBlock with
  |none=>exact .inl rfl
  |some g=>
   refine .inr (λe=>?_);rw[j]at e;injection e with e
   have:=((h.xH x v a).lt g k).2;omega
 refine⟨⟨r,λx v a=>?_,λx i=>?_,λx y v u a m k=>?_⟩,?_⟩
 .by_cases e:x=p
  .subst e;rw[xR]at a;injection a with a
   subst a;rw[ann];have:=d t;simpa[oL]using this
  rw[wm e]at a;rw[aaY e];exact d ((h.xH x v a).kept l (s x v a e))
 .by_cases e:x=p
  .subst e;rw[xR]at i;cases i
  rw[wm e]at i;rw[aaY e];exact h.Pt x i
 .by_cases e:x=p
  .subst e;rw[xR]at a;injection a with a
   subst a;have w:y≠x:=λe=>k e.symm
   rw[wm w]at m;rcases f y u m w with j|j
   .cases B:v'.ownBlock with
    |none=>exact .inl rfl
    |some g=>exact .inr (by rw[j];simp)
   exact .inr (λe=>j e.symm)
  rw[wm e]at a
  by_cases w:y=p
  .subst w;rw[xR]at m;injection m with m
   subst m;exact f x v a e
  rw[wm w]at m;exact h.Mz x y v u a m k
 have K:=l.size;have B:=c.size;refine⟨c.os.trans l.os,c.tape.trans l.tape,c.output.trans l.output,O,λk x w=>?_⟩;rw[c.block k O (by simp at w⊢;omega),l.block k x (λe=>w (by simp[<-e]))]
def amP(a o x j u)(h:([Y x]:V8)[j]?=P u):Ce (Al (Al a o) (Vc #[Y x] 9)) (((C (F (X a)+1) 0 G):Addr).add j)=P u:=by
 have e:((C (F (X a)+1) 0 G):Addr).add j=(C (F (X a)+1) j G):=by unfold Addr.add;split<;>simp_all
 rw[e,World.cell?_alloc_at _ _ _ _ oS];simpa using h
def QN(x):∀u∈([Y x]:V8),u.oneCell'=true:=by intro u a;simp at a;subst a;rfl
def OV(rs:List PR)(k:Nat)(pd:B8)(ls:List (dd×V9))(j:Nat):List sj:=jS ((rs.map (·.R)).take k)++vv pd ((ls.map (·.1)).take j)
def UG(l R):jS (l++[R])=jS l++vv R.pd R.body:=by simp[jS]
variable {g:List PR}
def Qw(h:a<Z g):(g.map (·.R)).take (a+1)=(g.map (·.R)).take a++[g[a].R]:=by rw[jr (oU h)];simp
def afd(h:a<Z g)(b:g[a].bs.map (·.1)=g[a].R.body){j}(c:g[a].bs.length<=j):OV g a g[a].R.pd g[a].bs j=jS ((g.map (·.R)).take (a+1)):=by unfold OV;rw[Qw h,UG,j7 (l:=g[a].bs.map (·.1)) (oU c),b]
def afx{rs k pd j}(b:a<Z j):OV rs k pd j (a+1)=OV rs k pd j a++[(pd,j[a].1.pd)]:=by unfold OV;rw[jr (oU b)];simp[vv]
def ahP(w A ar cr a)(h:gi w A (U ar (Z a) cr) a)(Am:∀r∈a,r.R.pd.size<=800)(E:∀r∈a,Z r.bs<=3)(api:Z a<=30):Calls prog 119 #[U ar (Z a) cr] w λe r=>e=Vr (.map (P (F (X w))))/\Below (F (X w)) w r/\(F (X w))<F (X r)/\∃V,Lk (F (X w)) (jS (a.map (·.R))).length (jS (a.map (·.R))) V r:=by
 have yX:=@run_makeMap prog;obtain⟨i0,hi,gB,dx,cB⟩:=info_parts apu;have b:Lk (F (X w)) 0 [] (λ_=>G) (Al w (.map #[] 0)):=⟨dt.made _ _ w,λ_ _ Q=>(by cases Q),λ_ _=>rfl,λ_ _ _ _ Q=>(by cases Q)⟩;have m:Below (F (X w)) w (Al w (.map #[] 0)):=B9.alloc L9 _;have i:∀k,k<=Z a->(jS ((a.map (·.R)).take k)).length<=3*k:=by
  intro k
  induction k with
  |zero=>intro _;simp[jS]
  |succ k r=>intro hk;rw[Qw O,UG];have v:=r O;have h2:=E _ (aN (show k<(Z a) by omega));have B:=(h.aK _ (aN (show k<(Z a) by omega))).eq;have p:a[k].R.body.length=a[k].bs.length:=(by rw[<-B];simp);simp only[br,vv,bF];omega
 have HE:=H i;have HR:=H h;clear h i;go_in;go_wp2
 go_loopg [12] (Z a) (λh i wr=>∃(k:Nat)(V:B8->Option V9),k<=Z a/\h=Z a-k/\i=I J k/\Below (F (X w)) w wr/\(F (X w))<F (X wr)/\Lk (F (X w)) (jS ((a.map (·.R)).take k)).length (jS ((a.map (·.R)).take k)) V wr)
 exact⟨0,_,aI _,rfl,rfl,m,oS,b⟩
 case round=>
  clear b m;obtain⟨k,V,hk,_,rfl,m,hsz,i⟩:=hrel
  by_cases b:k<Z a
  .have n:=HR.ai m;obtain⟨_,_,po,_,_,_,_,h⟩:=gu AG n.row k b;injection po with p h5 j
   subst p j;have p:=n.aK _ (aN b);have j:=HR.aK _ (aN b);obtain⟨S,W,z⟩:=aF p.hd;obtain⟨R,T,x⟩:=aF p.bo.row;have N:=h 0 O;have L:=h 1 O;have s:=h 2 O;simp only[PR.cells,z,x,iy,aT,bx]at N L s;have d:=(aZ (F (X wr)) wr).alloc L9 (Vc #[Y a[k].R.pd,U S a[k].R.ts.length W,U R a[k].bs.length T] 123);have r:(Al wr (Vc #[Y a[k].R.pd,U S a[k].R.ts.length W,U R a[k].bs.length T] 123)).heap[F (X wr)]?=_:=aG wr _;have q:=m.trans (d.mono O);have u:=i.ai d;have c:=j.bo;rw[x]at c;have A7:=H c;have uc:=H j.eq;have kV:=E _ (aN b);have Cv:=Am _ (aN b);have K:a[k].R.pd.size<=maxLen:=oM;have f:=ag HE k hk;have D:Lk (F (X w)) (OV a k a[k].R.pd a[k].bs 0).length (OV a k a[k].R.pd a[k].bs 0) V (Al wr (Vc #[Y a[k].R.pd,U S a[k].R.ts.length W,U R a[k].bs.length T] 123)):=by
    have:OV a k a[k].R.pd a[k].bs 0=jS ((a.map (·.R)).take k):=by simp[OV,vv]
    rw[this];exact u
   have g:(OV a k a[k].R.pd a[k].bs 0).length<=3*k+0:=(by simpa[OV,vv]using f);clear h p j z x u n c i d f;generalize EM:F (X wr)=n1 at*;go_wp2
   go_loopg [19] a[k].bs.length (λu j n=>∃(c:Nat)(V:B8->Option V9),c<=a[k].bs.length/\u=a[k].bs.length-c/\j=I J c/\Below (F (X w)) w n/\n1<F (X n)/\n.heap[n1]?=P (Vc #[Y a[k].R.pd,U S a[k].R.ts.length W,U R a[k].bs.length T] 123)/\Lk (F (X w)) (OV a k a[k].R.pd a[k].bs c).length (OV a k a[k].R.pd a[k].bs c) V n/\(OV a k a[k].R.pd a[k].bs c).length<=3*k+c)
   exact⟨0,V,aI _,rfl,rfl,q,by simp[EM],r,D,g⟩
   case round=>
    clear D g q r N L s m;obtain⟨j,V,_,_,rfl,m,N,r,D,f⟩:=hrel
    by_cases q:j<a[k].bs.length
    .have p:=A7.ai m;obtain⟨g,_,Q,_,_,_,_,L⟩:=gu FI p.row j q;injection Q with v h2 B
     subst v B;obtain⟨z,B,u⟩:=aF (p.aK _ (aN q));have q0:=L 0 O;have q1:=L 1 O;have q2:=L 2 O;simp only[dd.cells,u,iy,aT,bx]at q0 q1 q2;obtain⟨_,_⟩:=aj r 0;have d:=((aZ (F (X wr)) wr).alloc L9 (Vc #[Vb a[k].bs[j].1.neg,Y a[k].bs[j].1.pd,U z a[k].bs[j].1.ts.length B] 183)).alloc oS (Vc #[Y a[k].bs[j].1.pd] 9);have v:=(aZ (F (X wr)) wr).alloc L9 (Vc #[Vb a[k].bs[j].1.neg,Y a[k].bs[j].1.pd,U z a[k].bs[j].1.ts.length B] 183);have n:=(D.ai v).map;have x:=D.ai d;have s:=x.aC a[k].R.pd;obtain⟨_,_,c⟩:=aF s;have pn:=anm (OV a k a[k].R.pd a[k].bs j) a[k].R.pd;have l:=s;rw[c]at l;have o:=H x;have t:=H (afx (rs:=a) (k:=k) (pd:=a[k].R.pd) q);have h:=(d.block n1 N).trans r;have Gu:=H h;have sk:=H d;have HUN:=H (gl l (e:=123) oD);have y:=H (λg e=>(l.lt g e).1);clear L u D x s r h d v p;go_wp2_with(first|(at_lookup;refine Vn _ rfl _ _ 224 rfl 9 33 underlying9 underlying224 (zeroValue33 _) (F (X w)) (OV a k a[k].R.pd a[k].bs j).length V rfl n a[k].R.pd rfl K _ c ?_)|(at_builtin;refine wpList_append_own_at _ rfl _ _ 33 rfl (F (X w)+1) 9 i0 _ 1 16 underlying33 hi gB dx cB rfl oD _ _ _ rfl l (C (F (X wr)+1) 0 G) 1 1 [Y a[k].bs[j].1.pd] rfl rfl (amP wr _ _) (QN _) oM O oT ?_));intro v5 w5 h d p x;obtain⟨_,_,rfl⟩:=aF h;rw[<-c]at d x;have Fh:=d.size;have L:dt prog 9 w5 (F (X w)) (OV a k a[k].R.pd a[k].bs j).length V:=o.map.block (d.block _ o.map.lt (λe=>by rw[c]at e;have:=ag y _ e.symm;omega));have v:=H h
     have u:=H d;have s:=H x;clear h d p x n l;go_wp2_with(at_mapUpdate;refine Df _ rfl _ _ _ 224 rfl 9 33 underlying9 underlying224 (F (X w)) (OV a k a[k].R.pd a[k].bs j).length V rfl L oM a[k].R.pd _ (by rfl) (by rfl) K ?_);intro w6 d p;obtain⟨n,h⟩:=o.put (q:=a[k].bs[j].1.pd) u v (oU (ag s)) d p;rw[c]at h
     have M:=lC Gu h (λx l=>by
      rcases bS.1 l with rfl|l
      .exact .inl O
      exact .inr (HUN x l))
     have hB6:Below (F (X w)) w w6:=ib (m.trans (sk.mono O)) h oT (λx l=>by
      rcases bS.1 l with rfl|l
      .omega
      have:=ag y x (oU l);omega)
     have hz6:=h.size;simp at hz6;have x:=H n;have K4:=H M;clear n h M d p L u v s;go_wp2;go_roundg(a[k].bs.length-(j+1));exact⟨j+1,_,O,rfl,oN,hB6,O,K4,by rw[ag t,br];exact x,by rw[ag t];simp;omega⟩;omega
    have g:=H (afd b uc (j:=j) O);have c:=H D;clear D r;go_wp2;go_roundg(Z a-(k+1));exact⟨k+1,V,O,rfl,oN,m,O,by rw[<-ag g];exact c⟩;omega
  have e:(a.map (·.R)).take k=a.map (·.R):=j7 oT;rw[e]at i;have c:=H i;clear i e;go_wp2;go_ret;exact⟨rfl,m,hsz,V,c⟩
inductive o7 (E:List sj):B8->B8->Prop where
 |one {a b:B8} (h:(a,b)∈E):o7 E a b
 |next {a b c:B8} (t:o7 E a b) (h:(b,c)∈E):o7 E a c
open Classical in
noncomputable def vC(E:List sj)(p q:B8):Bool:=decide (o7 E p q)
variable {b d:B8}{c:List sj}
def Jh{x}:x∈iV c b↔(b,x)∈c:=by
 unfold iV
 constructor
 .intro h;obtain⟨e,E,rfl⟩:=aU.1 h;obtain⟨a,p⟩:=gI.1 E;have:e.1=b:=kJ.1 p;rw[<-this];exact a
 intro h;exact aU.2 ⟨(b,x),gI.2 ⟨h,oS⟩,rfl⟩
def pO(oz:List B8)(x:B8):Bool:=oz.any λm=>m.toList==x.toList
variable {a e:List B8}
def uI{x}:pO a x=Bt↔x∈a:=by
 unfold pO;rw[va]
 constructor
 .rintro⟨_,b,h⟩;rw[<-kJ.1 h];exact b
 intro h;exact⟨x,h,oS⟩
def qI(oz:List B8):B8->Option V9:=λk=>if pO oz k then P (Va #[]) else G
def aiN(a x):tY (qI a) x (Va #[])=qI (a++[x]):=by
 funext k
 by_cases e:k=x
 .subst e;rw[xR];unfold qI;rw[aD (uI.2 oS)]
 rw[wm e];unfold qI
 by_cases h:pO a k=Bt
 .rw[aD h,aD (uI.2 (by have:=uI.1 h;simp[this]))]
 rw[aB h,aB (λb=>by
  have:=uI.1 b;simp at this;rcases this with b|b
  .exact h (uI.2 b)
  exact e b)]
def cA(E:List sj)(oz:List B8):Nat:=(E.filter λe=>!pO oz e.2).length
def Uj(a:List B8)(x:B8):∀(l:List sj),(l.filter λe=>!pO (a++[x]) e.2).length<=(l.filter λe=>!pO a e.2).length
 | []=>bD _
 |e::r=>by
  have b:=Uj a x r;have l:pO a e.2=Bt->pO (a++[x]) e.2=true:=λh=>uI.2 (by have:=uI.1 h;simp[this])
  simp only[tf]
  cases h:pO a e.2 with
  |true=>rw[l h];simpa using b
  |false=>
   cases c:pO (a++[x]) e.2 with
   |true=>simp;omega
   |false=>simp;omega
def Ui{x:B8}(y:pO a x=Bf):∀(l:List sj),(b,x)∈l->(l.filter λe=>!pO (a++[x]) e.2).length+1<=(l.filter λe=>!pO a e.2).length
 | [],h=>by cases h
 |e::r,h=>by
  have l:pO a e.2=Bt->pO (a++[x]) e.2=true:=λh=>uI.2 (by have:=uI.1 h;simp[this])
  have c:pO (a++[x]) x=true:=uI.2 oS;simp only[tf];rcases bS.1 h with d|f
  .have:=Uj a x r;subst d;simp only[c,y,LD,LC,qi,pG,lM,ff];omega
  have g:=Ui y r f
  cases d:pO a e.2 with
  |true=>rw[l d];simpa using g
  |false=>
   cases i:pO (a++[x]) e.2 with
   |true=>simp;omega
   |false=>simp;omega
def aeD{x}(h:(b,x)∈c)(E:pO a x=Bf):cA c (a++[x])+1<=cA c a:=Ui E c h
structure pJ(E:List sj)(p q:B8)(st oz:List B8)(now:Option B8):Prop where
 Jz:∀x∈st,x=p\/o7 E p x
 PF:∀x∈oz,o7 E p x
 done:∀y,(y=p\/y∈oz)->y∈st\/now=P y\/∀z∈iV E y,z≠q/\z∈oz
def pJ.start(E p q):pJ E p q [p] [] none:=
 ⟨λx a=>.inl (oU a),λx a=>(by cases a),λy x=>.inl (by rcases x with rfl|h;simp;cases h)⟩
def pJ.pop{x}(h:pJ c b d (a++[x]) e G):pJ c b d a e (P x)/\(x=b\/o7 c b x):=by
 refine⟨⟨λy E=>h.Jz y (by simp[E]),h.PF,λy E=>?_⟩,h.Jz x oS⟩;rcases h.done y E with p|p|p
 .simp at p;rcases p with p|p
  .exact .inl p
  exact .inr (.inl (by rw[p]))
 .cases p
 exact .inr (.inr p)
def Z2{x}(h:x=b\/o7 c b x)(a:d∈iV c x):o7 c b d:=by
 rcases h with rfl|h
 .exact .one (Jh.1 a)
 exact .next h (Jh.1 a)
def pJ.push{x z}(h:pJ c b d a e (P x))(i:x=b\/o7 c b x)(j:z∈iV c x):pJ c b d (a++[z]) (e++[z]) (P x):=by
 have g:=Z2 i j;refine⟨λy q=>?_,λy q=>?_,λy q=>?_⟩
 .rcases aS.1 q with q|q
  .exact h.Jz y q
  simp at q;subst q;exact .inr g
 .rcases aS.1 q with q|q
  .exact h.PF y q
  simp at q;subst q;exact g
 have p:(y=b\/y∈e)\/y=z:=by
  rcases q with q|q
  .exact .inl (.inl q)
  rcases aS.1 q with q|q
  .exact .inl (.inr q)
  exact .inr (oU q)
 rcases p with q|rfl
 .rcases h.done y q with E|E|E
  .exact .inl (by simp[E])
  .exact .inr (.inl E)
  exact .inr (.inr λu f=>⟨(E u f).1,by simp[(E u f).2]⟩)
 exact .inl oS
def pJ.drop{x}(h:pJ c b d e a (P x))(E:∀z∈iV c x,z≠d/\z∈a):pJ c b d e a none:=by
 refine⟨h.Jz,h.PF,λy p=>?_⟩;rcases h.done y p with z|z|z
 .exact .inl z
 .injection z with z;subst z;exact .inr (.inr E)
 exact .inr (.inr z)
def pJ.lE(h:pJ c b d [] a G):vC c b d=false:=by
 have p:∀x,o7 c b x->x≠d/\x∈a:=by
  intro x e;have E:∀y,(y=b\/y∈a)->∀z,(y,z)∈c->z≠d/\z∈a:=λy f z t=>by
   rcases h.done y f with q|q|q
   .cases q
   .cases q
   exact q z (Jh.2 t)
  induction e with
  |one q=>exact E b (.inl rfl) _ q
  |next t q z=>exact E _ (.inr (z).2) _ q
 unfold vC;simp only[Mg];exact λq=>(p d q).1 rfl
def agh{q x}(h:x=b\/o7 c b x)(a:q∈iV c x):vC c b q=true:=by unfold vC;simp only[qW];exact Z2 h a
variable {f:Nat}{g:W8}
def ajI{w b x}(h:Ow g f 9 1 (U (P (C w 0 G)) (a++[x]).length b) (a++[x]).length (oL (a++[x]))):Ow g f 9 1 (U (P (C w 0 G)) (Z a) b) (Z a) (oL a):=by
 rcases h.2 with⟨l,_⟩|⟨_,_,d,l,j,e,m,k,n,o⟩
 .cases l
 injection l with c p i
 injection c with c
 injection c with c
 subst c i;refine⟨by simp[oL],.inr ⟨w,b,d,rfl,j,e,by simp at m;omega,k,n,?_⟩⟩;have c:=gQ (List.take (Z a)) o;rw[L3]at c;simp[oL]at c⊢;exact c
variable {h:V9}
def ajF{x}(v:Ow g f 9 1 h (a++[x]).length (oL (a++[x]))):∃w l,h=U (P (C w 0 G)) (a++[x]).length l/\f<=w/\w<F (X g)/\(a++[x]).length<=l/\l<=maxLen/\Ce g (C w (Z a) G)=P (Y x):=by
 rcases v.2 with⟨_,d⟩|⟨w,l,_,rfl,e,c,i,b,_,_⟩
 .simp at d
 refine⟨w,l,rfl,e,(aM.1 c).1,i,b,?_⟩;rw[v.cellAt (Z a) oS];simp[oL]
def ajK(v:Ow g f 9 1 h (Z a) (oL a))(k)(b:k<Z a):∃w l,h=U (P (C w 0 G)) (Z a) l/\f<=w/\w<F (X g)/\(Z a)<=l/\l<=maxLen/\Ce g (C w k G)=P (Y a[k]):=by
 rcases v.2 with⟨_,_⟩|⟨w,l,_,rfl,d,c,i,e,_,_⟩
 .omega
 refine⟨w,l,rfl,d,(aM.1 c).1,i,e,?_⟩;rw[v.cellAt k O];simp[oL,b]
structure sl(w:W8)(st oz:List B8)(v:V9)(wr:W8):Prop where
 row:Ow wr (F (X w)+1) 9 1 v (Z st) (oL st)
 map:dt prog 9 wr (F (X w)) (Z oz) (qI oz)
 ai:Below (F (X w)) w wr
 sz:F (X w)<F (X wr)
variable {b:List B8}{c:V9}{d e f:W8}
def sl.alloc(h:sl d b a c e)(o):sl d b a c (Al e o):=
 have w:=h.sz
 ⟨h.row.alloc o,h.map.alloc o,h.ai.alloc O _,oT⟩
def sl.put{w f a v wr c}(h:sl w f a v wr){x}(d:dt prog 9 c (F (X w)) (Z a+1) (tY (qI a) x (Va #[])))(b:wr.grownBy c (P (F (X w)))):sl w f (a++[x]) v c:=by
 have j:=h.sz;have k:=b.size;refine⟨gC h.row (λg e=>b.block g ((h.row.lt g e).2) (by have:=(h.row.lt g e).1;simp;omega)),?_,?_,O⟩
 .rw[aiN]at d;simpa using d
 exact h.ai.trans ⟨b.os,b.tape,b.output,b.size,λi e=>b.block i O oT⟩
def sl.push{k}(h:sl d a b c e){x}(v:Ow f (F (X d)+1) 9 1 k (Z a+1) (oL a++[Y x]))(w:e.grownBy f c.ownBlock):sl d (a++[x]) b k f:=by
 have l:=h.sz;have m:=w.size;have j:∀g,c.ownBlock=P g->F (X d)+1<=g:=λg wr=>(h.row.lt g wr).1
 refine⟨by simpa[oL]using v,h.map.block (w.block _ l (λwr=>by have:=j _ wr.symm;omega)),?_,O⟩;exact h.ai.trans ⟨w.os,w.tape,w.output,w.size,λi g=>w.block i O (λwr=>by have:=j _ wr.symm;omega)⟩
def agA(w p):sl w [p] [] (U (P (C (F (X w)+1) 0 G)) 1 1) (Al (Al w (.map #[] 0)) (Vc #[Y p] 9)):=by
 refine⟨⟨by simp[oL],.inr ⟨F (X w)+1,1,#[Y p],rfl,bD _,?_,bD _,by unfold maxLen;omega,oS,by simp[oL]⟩⟩,?_,oA.alloc oS _,oT⟩
 .have:=aG (Al w (.map #[] 0)) (Vc #[Y p] 9);rw[bL]at this;exact this
 exact(dt.made prog 9 w).alloc _
def aaz(a x j u)(h:([Y x]:V8)[j]?=P u):Ce (Al a (Vc #[Y x] 9)) (((C (F (X a)) 0 G):Addr).add j)=P u:=cell_one_new a _ _ j u h
def aeC(E):cA E []<=Z E:=qU _ _
def agf(w b n E V p q)(h:Lk b n E V w)(hE:Z E<=1000)(Am:∀e∈E,e.2.size<=800)(Cv:p.size<=800):Calls prog 120 #[.map (P b),Y p,Y q] w λe d=>e=Vr (Vb (vC E p q))/\Below (F (X w)) w d:=by
 have yX:=@run_makeMap prog;obtain⟨i0,hi,gB,dx,cB⟩:=info_parts apu;have d:=agA w p;have a:=aeC E;have HL:=H h;have E8:=h.map.lt;clear h;go_in;go_wp2
 go_loopg [8] (Z E+2) (λx v wr=>∃(m c:List B8),Z m+cA E c<=x/\(Z m)+cA E c<=Z E+1/\(Z c)+cA E c<=Z E/\(∀x∈m,x.size<=800)/\pJ E p q m c G/\sl w m c v wr)
 exact⟨[p],[],oT,oT,by simpa using a,by simpa using Cv,pJ.start E p q,d⟩
 case round=>
  clear d a;obtain⟨m,c,j,W,r,l,d,a⟩:=hrel;rcases Bz m with rfl|⟨k,x,rfl⟩
  .obtain⟨a1,c1,rfl⟩:=aF a.row;have A:=H d.lE;have t:=H a;clear d a;go_wp2;go_ret;exact⟨by rw[ag A];rfl,t.ai⟩
  rw[Bw]at j W l d a;obtain⟨g,cap,rfl,Q,R,yY,Ab,i⟩:=ajF a.row;have h:=ajI a.row;obtain⟨s,o⟩:=d.pop;have hlen:((k++[x]).length:Int)=(Z k:Int)+1:=oS
  have Ag:(k++[x]).length=Z k+1:=oS
  rw[Ag]at j W yY;have hx8:x.size<=800:=l x oS;have pt:x.size<=maxLen:=oM
  have u:∀y∈k,y.size<=800:=λy f=>l y (by simp[f])
  have z:=HL.ai a.ai;have B:=z.aC x;obtain⟨au,cu,S⟩:=aF B;have K:=z.map;have hum:=ej B;unfold maxLen at Ab hum;have D:sl w k c (U (P (C g 0 G)) (Z k) cap) wr:=⟨h,a.map,a.ai,a.sz⟩;have HU:=H (show Ow w (b+1) 9 1 (U au (iV E x).length cu) (iV E x).length (oL (iV E x)) by rw[<-S];exact(HL).aC x);clear d a h z B l;rw[Ag];go_wp2_with(first|(at_lookup;refine Vn _ rfl _ _ 224 rfl 9 33 underlying9 underlying224 (zeroValue33 _) b n V rfl K x rfl pt _ S ?_));obtain⟨h,L,hGk,_⟩:∃h,Z k+cA E c<=h/\h<gk/\h<=Z E:=⟨_,bD _,O,O⟩;clear j i K Q R
  go_loopg [8,35] (iV E x).length (λK v i wr=>∃(j:Nat)(m c:List B8),j<=(iV E x).length/\K=(iV E x).length-j/\i=I J j/\(Z m)+cA E c<=h/\(Z c)+cA E c<=Z E/\(∀y∈m,y.size<=800)/\pJ E p q m c (P x)/\sl w m c v wr/\∀z∈(iV E x).take j,z≠q/\z∈c)
  exact⟨0,k,c,aI _,rfl,rfl,L,r,u,s,D,oS⟩
  case round=>
   clear D s u r L;obtain⟨j,m,c,_,_,rfl,L,r,l,d,a,v⟩:=hrel;obtain⟨a1,c1,rfl⟩:=aF a.row
   by_cases D:j<(iV E x).length
   .have B:=aQ HU a.ai (λg e=>(HU.lt g e).2);obtain⟨_,_,xw,_,_,_,_,_⟩:=ajK B j D;injection xw with K h2 s
    subst K s;have hz:=aN D;have XM:=Jh.1 hz;have XJ:=Am _ XM;simp only at XJ;have K:(iV E x)[j].size<=maxLen:=oM;have s:=jr D;have Q:=H s;clear B s;generalize CB:(iV E x)[j]=z at*
    cases hq:z.toList==q.toList with
    |true=>have s:=kJ.1 hq;have R:=H (agh o (q:=q) (by rw[<-s];exact hz));have t:=H a;clear a d v s L;go_wp2;go_ret;exact⟨by rw[ag R];rfl,t.ai⟩
    |false=>
     have s:z≠q:=λe=>by rw[e]at hq;simp at hq
     have R:=H s;clear s;have e:=a.map;have Xp:(qI c z).getD (Va #[])=Va #[]:=by unfold qI;split<;>rfl
     cases s:pO c z with
     |true=>
      have B:(qI c z).isSome=true:=(by unfold qI;rw[aD s];rfl);have t:=H (a.alloc (Vc #[] 299))
      have u:=H (show ∀y∈(iV E x).take (j+1),y≠q/\y∈c from λy f=>by
       rw[ag Q]at f;rcases aS.1 f with f|f
       .exact v y f
       simp at f;subst f;exact⟨R,uI.1 s⟩)
      have A:=H d;clear a v d s;go_wp2_with(first|(at_lookup;refine sY _ rfl _ _ 298 rfl 9 299 underlying9 underlying298 (zeroValue299 _) (F (X w)) (Z c) (qI c) rfl e z rfl K _ Xp _ B ?_));go_roundg((iV E x).length-(j+1));exact⟨j+1,m,c,O,rfl,oN,L,r,l,A,t,u⟩;omega
     |false=>
      have B:(qI c z).isSome=false:=(by unfold qI;rw[s];rfl);have hcp:=aeD XM s;have u:=a.alloc (Vc #[] 299);have i:=u.map;have t:=H u;have A:=H (d.push o hz);have M:=H v;have EU:Z m<=1000:=O;clear a d s u v;go_wp2_with(first|(at_lookup;refine sY _ rfl _ _ 298 rfl 9 299 underlying9 underlying298 (zeroValue299 _) (F (X w)) (Z c) (qI c) rfl e z rfl K _ Xp _ B ?_)|(at_mapUpdate;refine Df _ rfl _ _ _ 298 rfl 9 299 underlying9 underlying298 (F (X w)) (Z c) (qI c) rfl i oM z (Va #[]) (by rfl) (by rfl) K ?_));intro w3 qG T;have u:=t.put qG T;have uH:=u.sz;have s:=u.row.alloc (Vc #[Y z] 9);have N:=H (u.alloc (Vc #[Y z] 9));clear qG T e i t u;go_wp2_with(at_builtin;refine ka _ rfl _ _ 33 rfl (F (X w)+1) 9 i0 _ 1 16 underlying33 hi gB dx cB rfl oD _ _ _ rfl s (C (F (X w3)) 0 G) 1 1 [Y z] rfl rfl (aaz w3 _) (QN _) oM O oT ?_);intro v5 w5 e i u;clear u;obtain⟨_,_,rfl⟩:=aF e;have u:=N.push e i;have T:=H u;clear e i s u N;go_wp2;go_roundg((iV E x).length-(j+1))
      case measure=>omega
      case rel=>
       refine⟨j+1,m++[z],c++[z],O,rfl,oN,oT,oT,λy f=>?_,A,?_,λy f=>?_⟩
       .rcases aS.1 f with f|f
        .exact l y f
        simp at f;subst f;exact XJ
       .have:=ag T;simpa using this
       rw[ag Q]at f;rcases aS.1 f with f|f
       .exact⟨(M y f).1,by simp[(M y f).2]⟩
       simp at f;subst f;exact⟨R,oS⟩
   have A:=H (d.drop (λz hz=>v z (by rw[j7 O];exact hz)));have t:=H a;clear a d v;go_wp2;go_roundg h;exact⟨m,c,L,O,r,l,A,t⟩;exact hGk
def Cd(rs:List iu)(n:Nat):B8:=match rs[n]? with|some R=>R.pd|none=>⟨#[]⟩
noncomputable def yG(rs:List iu)(M:bW):Bool:=M.neg&&(M.pd.toList==(Cd rs M.bn).toList||vC (jS rs) M.pd (Cd rs M.bn))
noncomputable def mL(rs:List iu):List bW->Int
 | []=>-1
 |M::r=>if yG rs M then(M.start:Int) else mL rs r
variable {a:List iu}
def aeT{b:List (bW×V9)}{k}(h:k<Z b):mL a ((b.map (·.1)).drop k)=if yG a b[k].1 then(b[k].1.start:Int) else mL a ((b.map (·.1)).drop (k+1)):=by rw[dM (oU h),mL];simp
def afe(h:∀R∈a,∀l∈R.body,l.pd.size<=800):∀e∈jS a,e.2.size<=800:=by intro e b;obtain⟨R,c,b⟩:=gh.1 b;obtain⟨l,d,rfl⟩:=aU.1 b;exact h R c l d
def afb{rs}(h:∀R∈rs,Z R.body<=3):(jS rs).length<=3*Z rs:=by
 induction rs with
 |nil=>simp[jS]
 |cons R r a=>
  have b:=a (λx e=>h x (bG _ e));have x:=h R bz;have e:jS (R::r)=vv R.pd R.body++jS r:=by simp[jS]
  rw[e,br,ff];simp only[vv,bF];omega
structure Kw(rs:List PR)(ms:List (bW×V9)):Prop where
 r30:Z rs<=30
 YC:Z ms<=1000
 b3:∀r∈rs,Z r.bs<=3
 rpd:∀r∈rs,r.R.pd.size<=800
 CL:∀R∈rs.map (·.R),∀l∈R.body,l.pd.size<=800
 mpd:∀x∈ms,x.1.pd.size<=800
 mts:∀x∈ms,x.1.bn<Z rs/\x.1.ts.length<=4
def aeX(w f B D b L M a)(h:gi w f (U B (Z b) D) b)(d:gv w f (U L (Z a) M) a)(N:Kw b a):Calls prog 77 #[Va #[U B (Z b) D,U L (Z a) M]] w λe q=>e=sC (mL (b.map (·.R)) (a.map (·.1)))/\Below (F (X w)) w q:=by
 obtain⟨y,_,q,z,t,v,x⟩:=N;have N:=afe t;have Q:(jS (b.map (·.R))).length<=1000:=by
  have:=afb (rs:=b.map (·.R)) (λR m=>by
   obtain⟨r,R,rfl⟩:=aU.1 m;have m:=q r R;have h2:=(h.aK r R).eq
   rw[<-h2];simpa using m)
  simp at this;omega
 have r:=uv.start h d;have T:=ej h.row;unfold maxLen at T;have i:=r.bB;obtain⟨c,R⟩:=aj r.box 1;clear h d;go_in;go_wp2_with fail;refine(ahP _ f B D b i z q y).mono ?_;rintro e w1⟨rfl,k,h,V,d⟩;have m:=r.next k;obtain⟨o,A⟩:=aj m.box 1;rw[bL]at d h⊢;clear r i c R k;go_wp2
 go_loopg [15] (Z a) (λR i wr=>∃k:Nat,k<=Z a/\R=Z a-k/\i=I J k/\uv w f (U B (Z b) D) (U L (Z a) M) b a wr/\Lk (F (X w)+1) (jS (b.map (·.R))).length (jS (b.map (·.R))) V wr/\mL (b.map (·.R)) (a.map (·.1))=mL (b.map (·.R)) ((a.map (·.1)).drop k))
 exact⟨0,aI _,rfl,rfl,m,d,rfl⟩
 case round=>
  clear m d o A h;obtain⟨k,_,_,rfl,h,d,R⟩:=hrel;have A:=H R;clear R
  by_cases R:k<Z a
  .have i:=H (A.trans (aeT R));obtain⟨_,_,hv,_,_,_,_,r⟩:=gu Pd h.gG.row k R;injection hv with m h2 c
   subst m c;obtain⟨o,p,c⟩:=aF (h.gG.aK _ (aN R));have q0:=r 0 O;have E:=r 1 O;have q2:=r 2 O;have q3:=r 3 O;have q4:=r 4 O;have q5:=r 5 O;have q6:=r 6 O;have q7:=r 7 O;have q8:=r 8 O;have q9:=r 9 O;simp only[bW.cells,c,iy,aT,bx]at q0 E q2 q3 q4 q5 q6 q7 q8 q9;obtain⟨m,_⟩:=x _ (aN R);obtain⟨_,_,W,_,_,_,_,l⟩:=gu AG h.bB.row a[k].1.bn m;injection W with u h5 n
   subst u n;have r0:=l 0 O;simp only[PR.cells,iy,aT]at r0;obtain⟨x0,xf0⟩:=aj h.box 0;have u:=(aZ (F (X wr)) wr).alloc L9 (Vc #[I J a[k].1.bn,Vb a[k].1.neg,Y a[k].1.pd,U o a[k].1.ts.length p,I J a[k].1.start,I J a[k].1.place,I J (a[k].1.pl 0),I J (a[k].1.pl 1),I J (a[k].1.pl 2),I J (a[k].1.pl 3)] 221);have n:=h.next u;have j:=d.ai u;have s:Cd (b.map (·.R)) a[k].1.bn=b[a[k].1.bn].R.pd:=by unfold Cd;rw[gP,dr m];rfl
   have S:=v _ (aN R);have hsz:=h.sz;have g:=H n;clear r l A h d n c u;have r:yG (b.map (·.R)) a[k].1=(a[k].1.neg&&(a[k].1.pd.toList==b[a[k].1.bn].R.pd.toList||vC (jS (b.map (·.R))) a[k].1.pd b[a[k].1.bn].R.pd)):=(by unfold yG;rw[s]);rw[r]at i;clear s r
   cases r:a[k].1.neg with
   |false=>rw[r]at i E g;have c:=H (show mL (b.map (·.R)) (a.map (·.1))=mL (b.map (·.R)) ((a.map (·.1)).drop (k+1)) from i);rw[r]at j;have s:=H j;clear i r j;go_wp2;go_roundg(Z a-(k+1));exact⟨k+1,O,rfl,oN,g,s,c⟩;omega
   |true=>
    rw[r]at i E g j;have HN:=H r;clear r
    cases s:a[k].1.pd.toList==b[a[k].1.bn].R.pd.toList with
    |true=>
     rw[s]at i;have c:=H (show mL (b.map (·.R)) (a.map (·.1))=(a[k].1.start:Int) from i);clear i j;go_wp2
     go_ret2
     refine⟨?_,g.ai⟩;rw[ag c];unfold sC;rw[aD O];simp
    |false=>
     rw[s]at i;go_wp2_with fail;refine(agf _ (F (X w)+1) _ (jS (b.map (·.R))) V a[k].1.pd b[a[k].1.bn].R.pd j Q N S).mono ?_;rintro e w2⟨rfl,r⟩;have cB:=r.size;rw[bL]at cB;have u:(Al wr (Vc #[I J a[k].1.bn,Vb Bt,Y a[k].1.pd,U o a[k].1.ts.length p,I J a[k].1.start,I J a[k].1.place,I J (a[k].1.pl 0),I J (a[k].1.pl 1),I J (a[k].1.pl 2),I J (a[k].1.pl 3)] 221)).heap[F (X wr)]?=_:=aG wr _;have l:=(r.block (F (X wr)) oS).trans u;obtain⟨z4,zf4⟩:=aj l 4;have n:=H (g.next r);have K:=H (j.ai r);clear q0 E q2 q3 q4 q5 q6 q7 q8 q9 r0 x0 xf0 j g u l
     cases l:vC (jS (b.map (·.R))) a[k].1.pd b[a[k].1.bn].R.pd with
     |true=>
      rw[l]at i;have c:=H (show mL (b.map (·.R)) (a.map (·.1))=(a[k].1.start:Int) from i);clear i l;go_wp2
      go_ret2
      refine⟨?_,n.ai⟩;rw[ag c];unfold sC;rw[aD O];simp
     |false=>rw[l]at i;have c:=H (show mL (b.map (·.R)) (a.map (·.1))=mL (b.map (·.R)) ((a.map (·.1)).drop (k+1)) from i);clear i l z4 zf4;go_wp2;go_roundg(Z a-(k+1));exact⟨k+1,O,rfl,oN,n,K,c⟩;omega
  have i:=H (show mL (b.map (·.R)) (a.map (·.1))=-1 by rw[ag A,gE oT];rfl);have g:=H h;clear A h d;go_wp2
  go_ret2
  exact⟨by rw[ag i];rfl,g.ai⟩
noncomputable def vA(rs:List iu)(ms:List bW):Int×Int:=
 if 0<=qK ms [] then(3,qK ms []) else if 0<=qP rs ms then(4,qP rs ms) else if 0<=mL rs ms then(5,mL rs ms) else(0,0)
def afQ(w a o q c n p b)(h:gi w a (U o (Z c) q) c)(d:gv w a (U n (Z b) p) b)(m:Kw c b):Calls prog 46 #[Va #[U o (Z c) q,U n (Z b) p]] w λe f=>e=Vr (Vt #[I J (vA (c.map (·.R)) (b.map (·.1))).1,I J (vA (c.map (·.R)) (b.map (·.1))).2])/\Below (F (X w)) w f:=by
 have f:=uv.start h d;have r:=vA.eq_1 (c.map (·.R)) (b.map (·.1));have i:=H r;clear h d r;go_in;go_wp2_with fail;refine(ajR _ a o (Z c) q n p b f.gG m.YC m.mpd).mono ?_;rintro e x⟨d,r⟩;have g:=f.next r;obtain⟨s,j⟩:=aj g.box 0;obtain⟨t,k⟩:=aj g.box 1;have u:=g.sz;clear f r
 by_cases r:0<=qK (b.map (·.1)) []
 .have f:=H (i.trans (aD r));have h:e=Vr (Vt #[I J (qK (b.map (·.1)) []),Vb Bt]):=by rw[d];unfold sC;rw[aD r];simp[r]
  subst h;have l:=H g.ai;clear i d r g;go_wp2
  go_ret2
  exact⟨by rw[ag f];rfl,l⟩
 have f:=H (i.trans (aB r));have h:e=Vr (Vt #[I J 0,Vb Bf]):=by rw[d];unfold sC;rw[aB r];simp[r]
 subst h;clear i d r;go_wp2_with fail;refine(anP _ a o q c n p b g.bB g.gG m.YC m.mts (λr i=>by have:=m.b3 r i;omega)).mono ?_;rintro e y⟨d,r⟩;have i:=g.next r;clear g r s t j k;obtain⟨s,j⟩:=aj i.box 0;obtain⟨t,k⟩:=aj i.box 1;have v:=i.sz
 by_cases g:0<=qP (c.map (·.R)) (b.map (·.1))
 .have r:=H (f.trans (aD g));have h:e=Vr (Vt #[I J (qP (c.map (·.R)) (b.map (·.1))),Vb Bt]):=by rw[d];unfold sC;rw[aD g];simp[g]
  subst h;have l:=H i.ai;clear f d g i;go_wp2
  go_ret2
  exact⟨by rw[ag r];rfl,l⟩
 have r:=H (f.trans (aB g));have h:e=Vr (Vt #[I J 0,Vb Bf]):=by rw[d];unfold sC;rw[aB g];simp[g]
 subst h;clear f d g;go_wp2_with fail;refine(aeX _ a o q c n p b i.bB i.gG m).mono ?_;rintro e z⟨d,g⟩;have f:=i.next g;have l:=H f.ai;clear i g s t j k f
 by_cases i:0<=mL (c.map (·.R)) (b.map (·.1))
 .have g:=H (r.trans (aD i));have h:e=Vr (Vt #[I J (mL (c.map (·.R)) (b.map (·.1))),Vb Bt]):=by rw[d];unfold sC;rw[aD i];simp[i]
  subst h;clear r d i;go_wp2
  go_ret2
  exact⟨by rw[ag g];rfl,l⟩
 have g:=H (r.trans (aB i));have h:e=Vr (Vt #[I J 0,Vb Bf]):=by rw[d];unfold sC;rw[aB i];simp[i]
 subst h;clear r d i;go_wp2
 go_ret2
 exact⟨by rw[ag g];rfl,l⟩
noncomputable def JG(s:B8):Bool×Int×Int:=
 if 800<s.size then(Bf,1,0)
 else if(dL s).1=Bf then(Bf,2,(aE s (dL s).2.1).2.1)
 else if(vA (dL s).2.2.1 (dL s).2.2.2).1≠0 then(Bf,(vA (dL s).2.2.1 (dL s).2.2.2).1,(vA (dL s).2.2.1 (dL s).2.2.2).2)
 else(Bt,0,0)
def oi(w:W8)(base b:Nat)(rs:List PR):Prop:=∃(a:O8)(c:Nat),w.heap[b]?=P (Vc #[U a (Z rs) c] 106)/\base<=b/\gi w base (U a (Z rs) c) rs
def acf(w:W8)(a:Bool×Int×Int)(bB:List iu)(e:Ending)(w':W8):Prop:=
 Below (F (X w)) w w'/\(a.1=Bf->e=Vr (Vt #[Vp G,I J a.2.1,I J a.2.2])) /\
 (a.1=Bt->∃(b:Nat)(rs:List PR),e=Vr (Vt #[Vp (P (C b 0 G)),I J a.2.1,I J a.2.2])/\oi w' (F (X w)) b rs/\rs.map (·.R)=bB)
def ZA(w s)(V:s.size<=maxLen):Calls prog 30 #[Y s] w (acf w (JG s) (dL s).2.2.1):=by
 have g:=JG.eq_1 s;have f:=H g;clear g;unfold maxLen at V
 by_cases g:800<s.size
 .have E:800<(s.size:Int):=O
  have d:=H (f.trans (aD g));clear f g;go_in;go_wp2
  go_ret3
  rw[ag d];exact⟨aZ _ _,λ_=>rfl,λe=>by cases e⟩
 have E:¬800<(s.size:Int):=O
 have d:=H (f.trans (aB g));have M:s.size<=800:=O
 clear f g;go_in;go_wp2_with fail;refine(aky _ s O).mono ?_;rintro e p⟨g,m,f⟩
 cases j:(dL s).1 with
 |false=>
  have b:=H (d.trans (aD j));have a:=m j;subst a;clear m f d j;go_wp2
  go_ret3
  rw[ag b];exact⟨g.alloc g.size _,λ_=>rfl,λe=>by cases e⟩
 |true=>
  have b:=H (d.trans (aB (by rw[j];decide)));obtain⟨a,_,c,B,_,D,i,n,rfl,o,h,L,k,t,_⟩:=f j;obtain⟨_,_,N⟩:=aF o.row;obtain⟨_,_,Q⟩:=aF L.row;injection N with y q K
  injection Q with u v A
  subst y q K u v A;obtain⟨u,v⟩:=ZL s M j;rw[<-h]at u v;rw[<-k]at v;rw[<-h,<-k]at b;have A:=H h;have T:Kw i n:=by
   refine⟨t,O,λr z=>?_,λr z=>(u _ (fW z)).1,λR o l x=>(u R o).2.2 l x,λx l=>(v _ (fW l)).1,λx l=>?_⟩
   .have y:=(u _ (fW z)).2.1;have q:=(o.aK r z).eq;rw[<-q]at y;simpa using y
   obtain⟨_,q,K⟩:=v _ (fW l);exact⟨by simpa using K,q⟩
  have z:=(aZ (F (X p)) p).alloc L9 (Vc #[U a (Z i) c,U B (Z n) D] 100);have r:=o.ai z;have x:=L.ai z;have R:(Al p (Vc #[U a (Z i) c,U B (Z n) D] 100)).heap[F (X p)]?=_:=aG p _;have S:=g.size;have l:=g.trans (z.mono S);clear m f d j o L h k u v z;go_wp2_with fail;refine(afQ _ (F (X w)) a c i B D n r x T).mono ?_;rintro e z⟨rfl,d⟩;have u:=d.size;rw[bL]at u;have v:=r.ai d;have h:=(d.block (F (X p)) oS).trans R;have k:=l.trans (d.mono oT);obtain⟨_,_⟩:=aj h 0;clear r x R h d l
  by_cases h:(vA (i.map (·.R)) (n.map (·.1))).1≠0
  .have l:((vA (i.map (·.R)) (n.map (·.1))).1 != 0)=true:=(oU h);have d:=H (b.trans (aD h));clear b h;go_wp2
   go_ret3
   rw[ag d];exact⟨k,λ_=>rfl,λe=>by cases e⟩
  have l:((vA (i.map (·.R)) (n.map (·.1))).1 != 0)=false:=by simpa using h
  have d:=H (b.trans (aB h));clear b h;go_wp2
  go_ret3
  rw[ag d];have h:=(aZ (F (X z)) z).alloc L9 (Vc #[U a (Z i) c] 106);exact⟨k.trans (h.mono O),λe=>(by cases e),λ_=>⟨F (X z),i,rfl,⟨a,c,aG z _,O,v.ai h⟩,A⟩⟩
def bq(ps:P9)(S:B8->Nat):B8->Option V9:=λk=>(bE ps k).map λn=>Va #[Y k,I J (S k),I J n]
variable {a d:Nat}
def Px{b n}(h:jg b n a=Bt)(k):bE (jh b n a) k=if k=n then P a else bE b k:=by
 rw[vR]at h;rw[YN]
 by_cases e:k=n
 .subst e;rw[aD rfl]
  cases c:bE b k with
  |none=>rw[aD (by rfl),Jt,c];simp
  |some m=>rw[c]at h;simp at h;rw[aB oS,c,h]
 rw[aB e]
 cases c:bE b n with
 |none=>
  rw[aD (by rfl),Jt];have:¬(n.toList==k.toList)=true:=λh=>e ((kJ.1 h).symm)
  cases bE b k with
  |none=>simp only[aB this]
  |some m=>rfl
 |some m=>rw[aB oS]
def ams(b a n)(h:jg b a n=Bt):tY (bq b (λ_=>0)) a (Va #[Y a,I J 0,I J n])=bq (jh b a n) (λ_=>0):=by
 funext k
 unfold bq;rw[Px h]
 by_cases e:k=a
 .subst e;rw[xR,aD rfl];rfl
 rw[wm e,aB e]
structure wZ(w:W8)(b n:Nat)(V:B8->Option V9)(wr:W8):Prop where
 map:dt prog 9 wr b n V
 kept:ak [b] w wr
variable {c:B8->Option V9}{b:W8}
def wZ.alloc(h:wZ b a d c e)(o):wZ b a d c (Al e o):=⟨h.map.alloc o,h.kept.alloc o⟩
def wZ.put{w b n m V d wr c}(h:wZ w b n V wr)(g:dt prog 9 c b m d)(a:wr.grownBy c (P b)):wZ w b m d c:=
 ⟨g,h.kept.trans ⟨a.os,a.tape,a.output,a.size,λk f e=>a.block k f (by simp at e⊢;exact e)⟩⟩
def TD(w b n g d a f c)(h:dt prog 9 w b n (bq g (λ_=>0)))(p:n<=100000)(q:d.size<=800)(k:jg g d f=Bt):Calls prog 97 #[.map (P b),Va #[Y d,U a f c]] w λe j=>e=Vr (Vt #[])/\dt prog 9 j b (n+1) (bq (jh g d f) (λ_=>0))/\ak [b] w j:=by
 have j:wZ w b n (bq g (λ_=>0)) (Al w (Vc #[Y d,U a f c] 79)):=wZ.alloc ⟨h,ak.refl _ _⟩ _;have e:=j.map;have l:d.size<=maxLen:=oM
 have m:=H j;have o:=H (ams g d f k);clear h j k;go_in;go_wp2_with(at_mapUpdate;refine Df _ rfl _ _ _ 73 rfl 9 185 underlying9 underlying73 b n (bq g (λ_=>0)) rfl e oM d (Va #[Y d,I J 0,I J f]) (by rfl) (by rfl) l ?_);intro r k j;have h:=m.put k j;rw[ag o]at h;have i:=H h;clear m k j e h;go_wp2;go_end0;exact⟨rfl,i.map,i.kept⟩
def jl(R:iu):P9:=(R.pd,Z R.ts)::R.body.map λl=>(l.pd,Z l.ts)
def iU:P9->P9->P9
 | [],ps=>ps
 |x::r,ps=>iU r (jh ps x.1 x.2)
def mE:P9->P9->Prop
 | [],_=>True
 |x::r,ps=>jg ps x.1 x.2=Bt/\mE r (jh ps x.1 x.2)
def Jg(m:P9):∀(l a:P9),iU (l++m) a=iU m (iU l a)
 | [],_=>rfl
 |_::r,_=>Jg m r _
def Mu(m:P9):∀(l a:P9),mE (l++m) a↔mE l a/\mE m (iU l a)
 | [],a=>by simp[mE,iU]
 |x::r,a=>by rw[jA,mE,mE,Mu m r,iU,and_assoc]
def lJ(ls:List (dd×V9)):P9:=ls.map λx=>(x.1.pd,x.1.ts.length)
def ak1{r}(h:l6 b a r):jl r.R=(r.R.pd,Z r.R.ts)::lJ r.bs:=by unfold jl lJ;rw[<-h.eq,km];rfl
def ag7(w u ar cr a)(h:gi w u (U ar (Z a) cr) a)(mN:Z a<=30)(Q:∀r∈a,Z r.bs<=3)(T:∀r∈a,r.R.pd.size<=800)(R:∀r∈a,∀x∈r.bs,x.1.pd.size<=800)(b:mE ((a.map (·.R)).flatMap jl) []):Calls prog 55 #[U ar (Z a) cr] w λe r=>e=Vr (.map (P (F (X w))))/\(F (X w))<F (X r)/\Below (F (X w)) w r/\dt prog 9 r (F (X w)) (4*Z a) (bq (iU ((a.map (·.R)).flatMap jl) []) (λ_=>0)):=by
 have yX:=@run_makeMap prog;have f:dt prog 9 (Al w (.map #[] 0)) (F (X w)) 0 (bq [] (λ_=>0)):=dt.made _ _ w;have c:Below (F (X w)) w (Al w (.map #[] 0)):=B9.alloc L9 _;have HR:=H h;have E:=H b;clear h b;go_in;go_wp2
 go_loopg [11] (Z a) (λh i wr=>∃k:Nat,k<=Z a/\h=Z a-k/\i=I J k/\Below (F (X w)) w wr/\(F (X w))<F (X wr)/\dt prog 9 wr (F (X w)) (4*k) (bq (iU (((a.map (·.R)).take k).flatMap jl) []) (λ_=>0)))
 exact⟨0,aI _,rfl,rfl,c,oS,f⟩
 case round=>
  clear f c;obtain⟨k,_,_,rfl,f,W,c⟩:=hrel
  by_cases i:k<Z a
  .have q:=HR.ai f;obtain⟨_,_,po,_,_,_,_,x⟩:=gu AG q.row k i;injection po with h h5 v
   subst h v;have h:=HR.aK _ (aN i);obtain⟨B,D,v⟩:=aF h.hd;obtain⟨M,N,n⟩:=aF h.bo.row;have V:=x 0 O;have L:=x 1 O;have r2:=x 2 O;simp only[PR.cells,v,n,iy,aT,bx]at V L r2;have o:=h.bo;rw[n]at o;have K:=H o;have S:=T _ (aN i);have kV:=Q _ (aN i);have z:=R _ (aN i);have j:((a.map (·.R)).take (k+1)).flatMap jl=((a.map (·.R)).take k).flatMap jl++((a[k].R.pd,a[k].R.ts.length)::lJ a[k].bs):=by rw[Qw i,oc];simp[ak1 h]
   have l:mE (((a.map (·.R)).take k).flatMap jl++((a[k].R.pd,a[k].R.ts.length)::lJ a[k].bs)) []:=by have:=ag E;rw[<-L2 (k+1) (a.map (·.R)),oc,Mu,j]at this;exact this.1
   rw[Mu,mE]at l;obtain⟨_,g,m⟩:=l;have p:=H (gQ (λl=>iU l []) j);generalize y:iU (((a.map (·.R)).take k).flatMap jl) []=ps at*;have s:=H (show iU (((a.map (·.R)).take (k+1)).flatMap jl) []=iU (lJ a[k].bs) (jh ps a[k].R.pd a[k].R.ts.length) by rw[show iU (((a.map (·.R)).take (k+1)).flatMap jl) []=_ from ag p,Jg,y];rfl);have t:=(aZ (F (X wr)) wr).alloc L9 (Vc #[Y a[k].R.pd,U B a[k].R.ts.length D,U M a[k].bs.length N] 123);have A:(Al wr (Vc #[Y a[k].R.pd,U B a[k].R.ts.length D,U M a[k].bs.length N] 123)).heap[F (X wr)]?=_:=aG wr _;have r:=f.trans (t.mono O);have d:=c.alloc (Vc #[Y a[k].R.pd,U B a[k].R.ts.length D,U M a[k].bs.length N] 123);have l:=H m;clear x h v n o q j p f c t m y;go_wp2_with fail;refine(TD _ (F (X w)) (4*k) ps a[k].R.pd B a[k].R.ts.length D d O S g).mono ?_;rintro e w2⟨rfl,m,h⟩;have x:=lC A h oT;have cB:=h.size;rw[bL]at cB;have p:=ib r h oT oS;obtain⟨v,o⟩:=aj x 2;clear A h r d V L r2 g;generalize jh ps a[k].R.pd a[k].R.ts.length=h at*;generalize EM:F (X wr)=n1 at*;go_wp2
   go_loopg [22] a[k].bs.length (λA j n=>∃(g:Nat),g<=a[k].bs.length/\A=a[k].bs.length-g/\j=I J g/\Below (F (X w)) w n/\n1<F (X n)/\dt prog 9 n (F (X w)) (4*k+1+g) (bq (iU ((lJ a[k].bs).take g) h) (λ_=>0))/\mE ((lJ a[k].bs).drop g) (iU ((lJ a[k].bs).take g) h))
   exact⟨0,aI _,rfl,rfl,p,O,m,by simpa[iU]using ag l⟩
   case round=>
    clear p m x v o l;obtain⟨j,_,_,rfl,f,_,c,b⟩:=hrel
    by_cases x:j<a[k].bs.length
    .have p:=K.ai f;obtain⟨_,_,hv,_,_,_,_,A⟩:=gu FI p.row j x;injection hv with n h2 o
     subst n o;obtain⟨n,o,v⟩:=aF (p.aK _ (aN x));have q0:=A 0 O;have q1:=A 1 O;have q2:=A 2 O;simp only[dd.cells,v,iy,aT,bx]at q0 q1 q2;have y:(lJ a[k].bs).drop j=(a[k].bs[j].1.pd,a[k].bs[j].1.ts.length)::(lJ a[k].bs).drop (j+1):=by rw[dM (by simpa[lJ]using x)];simp[lJ]
     have l:(lJ a[k].bs).take (j+1)=(lJ a[k].bs).take j++[(a[k].bs[j].1.pd,a[k].bs[j].1.ts.length)]:=by rw[jr (by simpa[lJ]using x)];simp[lJ]
     rw[y,mE]at b;obtain⟨g,m⟩:=b;have V:=z _ (aN x);have q:=H (show mE ((lJ a[k].bs).drop (j+1)) (iU ((lJ a[k].bs).take (j+1)) h) by rw[l,Jg];exact m);have L:=H (show jh (iU ((lJ a[k].bs).take j) h) a[k].bs[j].1.pd a[k].bs[j].1.ts.length=iU ((lJ a[k].bs).take (j+1)) h by rw[l,Jg];rfl);have t:=(aZ (F (X wr)) wr).alloc L9 (Vc #[Vb a[k].bs[j].1.neg,Y a[k].bs[j].1.pd,U n a[k].bs[j].1.ts.length o] 183);have r:=f.trans (t.mono O);have d:=c.alloc (Vc #[Vb a[k].bs[j].1.neg,Y a[k].bs[j].1.pd,U n a[k].bs[j].1.ts.length o] 183);clear A v p y l m f c t;go_wp2_with fail;refine(TD _ (F (X w)) (4*k+1+j) (iU ((lJ a[k].bs).take j) h) a[k].bs[j].1.pd n a[k].bs[j].1.ts.length o d O V g).mono ?_;rintro e A⟨rfl,p,m⟩;have v:=m.size;rw[bL]at v;have y:=ib r m oT oS;rw[ag L]at p;have t:=H p;clear m r d q0 q1 q2 g p;go_wp2;go_roundg(a[k].bs.length-(j+1));exact⟨j+1,O,rfl,oN,y,O,t,q⟩;omega
    have l:(lJ a[k].bs).take j=lJ a[k].bs:=j7 (by simp[lJ];omega);rw[l]at c;have n:=H (c.mono (m:=4*(k+1)) O);clear c l b;go_wp2;go_roundg(Z a-(k+1));exact⟨k+1,O,rfl,oN,f,O,by rw[ag s];exact n⟩;omega
  have e:(a.map (·.R)).take k=a.map (·.R):=j7 oT;have h:k=Z a:=O
  rw[e,h]at c;have n:=H c;clear c e;go_wp2;go_ret;exact⟨rfl,W,f,n⟩
def oP(S:B8->Nat):List dd->Nat->Nat
 | [],m=>m
 |l::r,m=>oP S r (max m (S l.pd+if l.neg then 1 else 0))
noncomputable def AM(S:B8->Nat)(k:B8)(v:Nat):B8->Nat:=λx=>if x=k then v else S x
def FY(S k v):AM S k v k=v:=by simp[AM]
variable {b:B8}
def JX{S x}(h:x≠b):AM S b a x=S x:=by simp[AM,h]
noncomputable def vV(S:B8->Nat)(R:iu):B8->Nat:=AM S R.pd (oP S R.body (S R.pd))
def anW{S}{k:List (dd×V9)}{m}(h:a<Z k):oP S ((k.map (·.1)).drop a) m=oP S ((k.map (·.1)).drop (a+1)) (max m (S k[a].1.pd+if k[a].1.neg then 1 else 0)):=by rw[dM (oU h),oP];simp
def amt(b S a)(n v:Nat)(h:bE b a=P n):tY (bq b S) a (Va #[Y a,I J v,I J n])=bq b (AM S a v):=by
 funext k
 unfold bq
 by_cases e:k=a
 .subst e;rw[xR,h,FY];rfl
 rw[wm e,JX e]
def aal{n}(S)(h:bE n b=P a):(bq n S b).getD (Va #[Y ⟨#[]⟩,I J 0,I J 0])=Va #[Y b,I J (S b),I J a]:=by unfold bq;rw[h];rfl
def Kk(S:B8->Nat):∀(l:List dd)(m:Nat),m<=oP S l m
 | [],_=>bD _
 |_::r,_=>bf (Nat.le_max_left _ _) (Kk S r _)
def abf{S:B8->Nat}:∀(l:List dd)(m:Nat),m<=a->(∀x∈l,(S x.pd+if x.neg then 1 else 0)<=a)->oP S l m<=a
 | [],_,h,_=>h
 |x::r,_,h,hl=>abf r _ (Nat.max_le.2 ⟨h,hl x bz⟩) (λy x=>hl y (bG _ x))
def abe{S:B8->Nat}:∀(l:List dd)(m:Nat),∀x∈l,(S x.pd+if x.neg then 1 else 0)<=oP S l m
 | [],_,_,l=>by cases l
 |_::r,_,x,l=>by
  rcases bS.1 l with rfl|l
  .exact bf (Nat.le_max_right _ _) (Kk S r _)
  exact abe r _ x l
def Ey(x y z w):Sem.run prog (Instr.field 185 (Va #[x,y,z]) 1) w=.ok y w:=oK
structure Hj(w:W8)(b n:Nat)(V:B8->Option V9)(pd:B8)(nt m:Nat)(wr:W8):Prop where
 map:dt prog 9 wr b n V
 ai:Below (F (X w)) w wr
 size:F (X w)+1<F (X wr)
 MW:wr.heap[F (X w)+1]?=P (Vc #[Y pd,I J m,I J nt] 185)
def Hj.next{w n V c m wr}(h:Hj w a n V b c m wr)(f:a<F (X w))(x:Int)(d:Nat)(e:x=d)(o):Hj w a n V b c d (Al (Sc wr (C (F (X w)+1) 1 G) (I J x)) o):=by
 subst e;refine⟨(h.map.block (cx _ _ _ _ oT)).alloc o,(h.ai.setCell oS _).alloc ?_ o,?_,?_⟩
 .have:=h.size;simp[World.setCell];omega
 .have:=h.size;rw[bL];simp[World.setCell];omega
 have:=h.size;rw[aW _ _ _ (by simp[World.setCell];omega),j9 _ _ _ _ _ _ h.MW];rfl
def akR(w b n t f S c s E u q r a)(h:dt prog 9 w b n (bq f S))(L:iR w t (U q (Z a) r) a)(hn:n<=1000000000)(hp:c.size<=800)(d)(A:bE f c=P d)(Q:∀x∈a,x.1.pd.size<=800/\∃m,bE f x.1.pd=P m)(hS:∀k,S k<=100000)(qF:Z a<=1000):Calls prog 56 #[.map (P b),Va #[Y c,U s E u,U q (Z a) r]] w λe g=>e=Vr (Vb (decide (S c<oP S (a.map (·.1)) (S c))))/\dt prog 9 g b (n+1) (bq f (AM S c (oP S (a.map (·.1)) (S c))))/\ak [b] w g:=by
 have g:=h.lt;have p:=(aZ (F (X w)) w).alloc L9 (Vc #[Y c,U s E u,U q (Z a) r] 123);have i:=h.alloc (Vc #[Y c,U s E u,U q (Z a) r] 123);have y:c.size<=maxLen:=oM
 have hu:=aal S A;have x:=i.alloc (Vc #[Y c,I J (S c),I J d] 185);have z:=p.alloc oS (Vc #[Y c,I J (S c),I J d] 185);have e:(Al (Al w (Vc #[Y c,U s E u,U q (Z a) r] 123)) (Vc #[Y c,I J (S c),I J d] 185)).heap[F (X w)+1]?=P (Vc #[Y c,I J (S c),I J d] 185):=by have:=aG (Al w (Vc #[Y c,U s E u,U q (Z a) r] 123)) (Vc #[Y c,I J (S c),I J d] 185);rw[bL]at this;exact this
 have hSp:=hS c;have HL:=H L;clear h L;have vE:=Ey;go_in;go_wp2_with(at_lookup;refine Vn _ rfl _ _ 73 rfl 9 185 underlying9 underlying73 (zeroValue185 _) b n (bq f S) rfl i c rfl y _ hu ?_);clear i p
 go_loopg [20] (Z a) (λp i wr=>∃(k m:Nat),k<=Z a/\p=Z a-k/\i=I J k/\Hj w b n (bq f S) c d m wr/\S c<=m/\m<=100001/\oP S ((a.map (·.1)).drop k) m=oP S (a.map (·.1)) (S c))
 exact⟨0,S c,aI _,rfl,rfl,⟨x,z,oS,e⟩,bD _,O,rfl⟩
 case round=>
  clear x z e;obtain⟨k,m,_,_,rfl,i,_,p,x⟩:=hrel;have z:=i.map;have L:=i.ai;have T:=i.size;have e:=i.MW;have N:=H i;clear i;obtain⟨x0,W⟩:=aj e 0;obtain⟨x1,xf1⟩:=aj e 1;obtain⟨x2,Ro⟩:=aj e 2
  by_cases i:k<Z a
  .have j:=anW (S:=S) (m:=m) i;have K:=H (j.symm.trans x);clear j x;have j:=HL.ai L;obtain⟨_,_,hv,_,_,_,_,M⟩:=gu FI j.row k i;injection hv with l h2 o
   subst l o;obtain⟨l,o,v⟩:=aF (j.aK _ (aN i));have V:=M 0 O;have q1:=M 1 O;have q2:=M 2 O;simp only[dd.cells,v,iy,aT,bx]at V q1 q2;obtain⟨_,_,R⟩:=Q _ (aN i);have B:a[k].1.pd.size<=maxLen:=oM;have D:=aal S R;have hSq:=hS a[k].1.pd;have h:=z.alloc (Vc #[Vb a[k].1.neg,Y a[k].1.pd,U l a[k].1.ts.length o] 183);clear M v j z L e
   cases j:a[k].1.neg with
   |true=>rw[j]at V h K;go_wp2_with(at_lookup;refine Vn _ rfl _ _ 73 rfl 9 185 underlying9 underlying73 (zeroValue185 _) b n (bq f S) rfl h a[k].1.pd rfl B _ D ?_);have v:=N.next g (max (m:Int) ((S a[k].1.pd:Int)+1)) (max m (S a[k].1.pd+1)) O (Vc #[Vb Bt,Y a[k].1.pd,U l a[k].1.ts.length o] 183);go_roundg(Z a-(k+1));exact⟨k+1,max m (S a[k].1.pd+1),O,rfl,oN,v,O,O,by simpa using ag K⟩;omega
   |false=>rw[j]at V h K;go_wp2_with(at_lookup;refine Vn _ rfl _ _ 73 rfl 9 185 underlying9 underlying73 (zeroValue185 _) b n (bq f S) rfl h a[k].1.pd rfl B _ D ?_);have v:=N.next g (max (m:Int) (S a[k].1.pd:Int)) (max m (S a[k].1.pd)) O (Vc #[Vb Bf,Y a[k].1.pd,U l a[k].1.ts.length o] 183);go_roundg(Z a-(k+1));exact⟨k+1,max m (S a[k].1.pd),O,rfl,oN,v,O,O,by simpa using ag K⟩;omega
  have h:(a.map (·.1)).drop k=[]:=GL oT;rw[h,oP]at x;have l:=H x;have o:=H (amt f S c d m A);clear h x hu e;go_wp2_with(at_mapUpdate;refine Df _ rfl _ _ _ 73 rfl 9 185 underlying9 underlying73 b n (bq f S) rfl z oM c (Va #[Y c,I J m,I J d]) (by rfl) (by rfl) y ?_);intro v p h;have x:=wZ.put ⟨z,(ak.refl _ _).bC L⟩ p h;rw[ag o,ag l]at x;have j:=H x;have e:v.heap[F (X w)+1]?=P (Vc #[Y c,I J m,I J d] 185):=by rw[h.block _ T oT];exact(N).MW
  obtain⟨_,_⟩:=aj e 1;clear p h x z L e x0 x1 x2 W xf1 Ro;go_wp2;go_ret;exact⟨by rw[ag l];rfl,j.map,j.kept⟩
def Lx(f:B8->Nat)(R:iu):Prop:=∀l∈R.body,(f l.pd+if l.neg then 1 else 0)<=f R.pd
def ll(rs:List iu)(f:B8->Nat):Prop:=∀R∈rs,Lx f R
def og(rs:List iu)(S:B8->Nat):Prop:=∀f,ll rs f->∀k,S k<=f k
def ZX(S R k):S k<=vV S R k:=by
 unfold vV
 by_cases e:k=R.pd
 .subst e;rw[FY];exact Kk _ _ _
 rw[JX e];exact bD _
variable {c:List iu}{d:iu}
def aie{S}(h:og c S)(b:d∈c):og c (vV S d):=by
 intro f a k;unfold vV
 by_cases e:k=d.pd
 .subst e;rw[FY];refine abf _ _ (h f a _) λx R=>?_
  have g:=h f a x.pd;have i:=a d b x R;omega
 rw[JX e];exact h f a k
def akS{S}(h:¬S d.pd<oP S d.body (S d.pd)):Lx S d/\vV S d=S:=by
 have a:oP S d.body (S d.pd)=S d.pd:=Nat.le_antisymm (Nat.not_lt.1 h) (Kk _ _ _);refine⟨λl e=>?_,?_⟩
 .have:=abe d.body (S d.pd) (S:=S) l e
  rwa [a]at this
 funext k
 unfold vV
 by_cases e:k=d.pd
 .subst e;rw[FY,a]
 rw[JX e]
def pA(S:B8->Nat):P9->Nat
 | []=>0
 |p::r=>S p.1+pA S r
variable {a:B8->Nat}
def J4{S:B8->Nat}(h:∀k,S k<=a k):∀k,pA S k<=pA a k
 | []=>bD _
 |p::r=>Nat.add_le_add (h p.1) (J4 h r)
def aaE{S:B8->Nat}(h:∀k,S k<=a k){p:B8×Nat}(T:S p.1<a p.1):∀k,p∈k->pA S k<pA a k
 | [],k=>by cases k
 |q::r,k=>by
  rcases bS.1 k with rfl|k
  .exact Nat.add_lt_add_of_lt_of_le T (J4 h r)
  exact Nat.add_lt_add_of_le_of_lt (h q.1) (aaE h T r k)
variable {b:Nat}
def aaD{S:B8->Nat}(h:∀k,S k<=b):∀k,pA S k<=b*Z k
 | []=>aI _
 |p::r=>by
  have:=aaD h r;have k:=h p.1;simp only[pA,ff,Nat.mul_add,yo];omega
def Py{a:B8}:∀{e:P9},bE e a=P b->∃p∈e,p.1=a
 | [],h=>by simp[bE]at h
 |p::r,h=>by
  rw[bE]at h
  split at h
  .rename_i e;exact⟨p,bz,kJ.1 e⟩
  obtain⟨q,p,e⟩:=Py h;exact⟨q,bG _ p,e⟩
structure D5(rs:List iu)(ps:P9)(S0:B8->Nat)(k:Nat)(b:Bool)(S:B8->Nat):Prop where
 dS:og rs S
 ge:pA S0 ps<=pA S ps
 up:b=Bt->pA S0 ps<pA S ps
 X8:b=Bf->∀R∈rs.take k,Lx S R
def D5.next{g k S}(h:D5 c g a b k S)(i:b<Z c){n}(m:bE g c[b].pd=P n):D5 c g a (b+1) (if decide (S c[b].pd<oP S c[b].body (S c[b].pd)) then Bt else k) (vV S c[b]):=by
 have f:=J4 (ZX S c[b]) g
 by_cases d:S c[b].pd<oP S c[b].body (S c[b].pd)
 .obtain⟨p,j,e⟩:=Py m;have R:pA S g<pA (vV S c[b]) g:=aaE (ZX S c[b]) (p:=p) (by rw[e,vV,FY];exact d) g j;simp only[d,decide_true,lM];exact⟨aie h.dS (aN i),bf h.ge f,λ_=>Nat.lt_of_le_of_lt h.ge R,λe=>by cases e⟩
 obtain⟨j,l⟩:=akS d;simp only[d,decide_false,l];refine⟨h.dS,h.ge,by simpa using h.up,λe R p=>?_⟩;rw[jr i,aS]at p;rcases p with p|p
 .exact h.X8 (oU e) R p
 rw[bu.1 p];exact j
def Jw(w f ar cr a d)(h:gi w f (U ar (Z a) cr) a)(mN:Z a<=30)(A:∀r∈a,Z r.bs<=3)(V:∀r∈a,r.R.pd.size<=800)(N:∀r∈a,∀x∈r.bs,x.1.pd.size<=800)(b:mE ((a.map (·.R)).flatMap jl) [])(j:iU ((a.map (·.R)).flatMap jl) []=d)(An:Z d<=1000)(rM:∀r∈a,(∃n,bE d r.R.pd=P n)/\∀x∈r.bs,∃n,bE d x.1.pd=P n)(o)(K:ll (a.map (·.R)) o)(L:∀k,o k<=1000):Calls prog 35 #[U ar (Z a) cr] w λe c=>e=Vr (.map (P (F (X w))))/\(F (X w))<F (X c)/\Below (F (X w)) w c/\∃S n,dt prog 9 c (F (X w)) n (bq d S)/\n<=1000000000/\ll (a.map (·.R)) S/\og (a.map (·.R)) S:=by
 have HR:=H h;have hsf:=aaD L d;go_in;go_wp2_with fail;refine(ag7 w f ar cr a h mN A V N b).mono ?_;rintro e w1⟨rfl,l,i,c⟩;rw[j]at c;clear h b j;go_wp2
 go_loopg [4] (pA o d+1) (λj r wr=>∃(b:Bool)(S:B8->Nat)(n:Nat),r=Vb b/\(b=Bt->pA o d-pA S d+1<=j)/\n+30*j<=120+30*(pA o d+1)/\Below (F (X w)) w wr/\(F (X w))<F (X wr)/\dt prog 9 wr (F (X w)) n (bq d S)/\og (a.map (·.R)) S/\(b=Bf->ll (a.map (·.R)) S))
 exact⟨Bt,λ_=>0,4*Z a,rfl,λ_=>O,O,i,l,c,λ_ _ _=>aI _,λe=>by cases e⟩
 case round=>
  clear i l c;obtain⟨b,u,W,rfl,z,_,l,i,s,j,n⟩:=hrel
  cases b with
  |false=>have g:=H (n rfl);have R:=H j;clear j n;go_wp2;go_ret;exact⟨rfl,i,l,u,W,s,O,g,R⟩
  |true=>
   have Wt:=z rfl;generalize hg1:gk=g1 at*;have g:D5 (a.map (·.R)) d u 0 Bf u:=⟨j,bD _,(λe=>by cases e),λ_ R hR=>by simp at hR⟩;clear z n j;go_wp2
   go_loopg [4,12] (Z a) (λn r j z=>∃(b:Bool)(S:B8->Nat)(k:Nat),r=Vb b/\k<=Z a/\n=Z a-k/\j=I J k/\Below (F (X w)) w z/\(F (X w))<F (X z)/\dt prog 9 z (F (X w)) (W+k) (bq d S)/\D5 (a.map (·.R)) d u k b S)
   exact⟨Bf,u,0,rfl,aI _,rfl,rfl,l,i,s,g⟩
   case round=>
    clear l s g;obtain⟨b,S,k,rfl,_,_,rfl,l,i,s,j⟩:=hrel
    by_cases r:k<Z a
    .have z:=HR.ai l;obtain⟨_,_,po,_,_,_,_,g⟩:=gu AG z.row k r;injection po with h h5 B
     subst h B;have h:=HR.aK _ (aN r);obtain⟨ah,ch,B⟩:=aF h.hd;obtain⟨v,y,q⟩:=aF h.bo.row;have r0:=g 0 O;have r1:=g 1 O;have r2:=g 2 O;simp only[PR.cells,B,q,iy,aT,bx]at r0 r1 r2;have Cv:=V _ (aN r);obtain⟨⟨nt,T⟩,M⟩:=rM _ (aN r);have Q:=N _ (aN r);have aoD:=A _ (aN r);have c:=s.alloc (Vc #[Y a[k].R.pd,U ah a[k].R.ts.length ch,U v a[k].bs.length y] 123);have p:=l.alloc O (Vc #[Y a[k].R.pd,U ah a[k].R.ts.length ch,U v a[k].bs.length y] 123);have D:iR (Al wr (Vc #[Y a[k].R.pd,U ah a[k].R.ts.length ch,U v a[k].bs.length y] 123)) f (U v a[k].bs.length y) a[k].bs:=by
      have:=h.bo.ai p
      rwa [q]at this
     have t:=j.next (oU r) (n:=nt) (oU T);have n:∀x,S x<=100000:=λx=>bf (bf (j.dS o K x) (L x)) O
     simp only[nB]at t;have E:=h.eq;have m:=H t;clear g h B q z t j l s;go_wp2_with fail;refine(akR _ (F (X w)) (W+k) f d S a[k].R.pd ah a[k].R.ts.length ch v y a[k].bs c D O Cv nt T (λx q=>⟨Q x q,M x q⟩) n O).mono ?_;rintro e B⟨rfl,q,x⟩;have z:=x.size;rw[bL]at z;have h:=ib p x oT oS;rw[E]at q⊢;have t:Hid (dt prog 9 B (F (X w)) (W+(k+1)) (bq d (vV S a[k].R))):=H q;clear q x p c D r0 r1 r2 n E;generalize decide (S a[k].R.pd<oP S a[k].R.body (S a[k].R.pd))=c at m⊢
     cases c with
     |true=>go_wp2;go_roundg(Z a-(k+1));exact⟨Bt,_,k+1,rfl,O,rfl,oN,h,O,t,m⟩;omega
     |false=>go_wp2;go_roundg(Z a-(k+1));exact⟨b,_,k+1,rfl,O,rfl,oN,h,O,t,m⟩;omega
    have v:k=Z a:=O;have t:=j.ge;have h:=j.up;have y:=J4 (j.dS o K) d;have c:=H j;have m:=H h;clear j h;go_wp2;go_roundg(g1-1);exact⟨b,S,W+k,rfl,λe=>by have:=ag m e;omega,O,l,i,s,c.dS,λe R hR=>c.X8 e R (by rwa [j7 oT])⟩;omega
open Go.Sort
def rV(x y):ltOf mY x y=fc x y:=by
 unfold ltOf mY
 cases fc x y<;>cases x.toList==y.toList<;>simp
def QQ:SWO (ltOf mY) where
 irrefl x:=by rw[rV];exact Ay x
 trans x y z a h2:=by rw[rV]at*;exact CI a h2
 ntrans x y z a h2:=by
  rw[rV]at*
  cases h:fc x z with
  |false=>rfl
  |true=>
   cases b:fc z y with
   |true=>rw[CI h b]at a;cases a
   |false=>rw[Fo h2 b]at a;rw[a]at h;cases h
def ahs(x w):Calls prog 207 #[Y x] w λe a=>e=Vr (Vb Bf)/\a=w:=by go_in;go_wp2;go_ret;exact⟨oS,rfl⟩
def Ul(x y w):Calls prog 162 #[Y x,Y y] w λe c=>e=Vr (I J (mY x y))/\c=w:=by
 have d:=ahs;have f:mY x y=if Op.bytesLess x.toList y.toList then -1 else if x.toList==y.toList then 0 else 1:=rfl;go_in;go_wp2_with(go_at_call 207;refine(d _ _).mono ?_;rintro e c⟨rfl,rfl⟩)
 .rename_i a;go_ret;refine⟨?_,rfl⟩;rw[show mY x y=-1 by rw[mY,fc,a];rfl];rfl
 .rename_i a _ _ b;go_ret;refine⟨?_,rfl⟩;rw[show mY x y=1 by rw[mY,fc,a];simp at b⊢;exact b];rfl
 rename_i a b;go_ret;refine⟨?_,rfl⟩;rw[show mY x y=0 by rw[mY,fc,a];simp at b⊢;exact b];rfl
def aeB(x y a b c d W):Calls prog 195 #[Va #[Y x,I J a,I J b],Va #[Y y,I J c,I J d]] W λe f=>e=Vr (I J (mY x y))/\∃q r,f=grow (W.drewN q) r:=by
 have q:=λr=>Ul x y r
 generalize mY x y=r at q⊢;go_in;go_wp2_with(go_at_call 162;refine(q _).mono ?_;rintro e f⟨rfl,rfl⟩);go_ret;exact⟨rfl,0,_,by rw[alloc_eq_grow,alloc_eq_grow,grow_grow];rfl⟩
def gH:List (Bool×B8)->Nat->List UInt8
 | [],_=>[]
 |t::r,i=>(if i=0 then 40 else 44)::(t.2.data.toList++gH r (i+1))
def gW(pd:B8)(ts:List (Bool×B8)):List UInt8:=pd.data.toList++(gH ts 0++if (Z ts)=0 then [] else [41])
def sK(L:dd):List UInt8:=(if L.neg then [110,111,116,32] else [])++gW L.pd L.ts
def mO:List dd->Nat->List UInt8
 | [],_=>[]
 |L::r,i=>(if i=0 then [32,58,45,32] else [44,32])++(sK L++mO r (i+1))
def sQ(R:iu):List UInt8:=gW R.pd R.ts++(mO R.body 0++[46,10])
def nr(rs:List iu):List UInt8:=rs.flatMap sQ
variable {a:Nat}
def anf{k}(h:a<Z k):gH (k.drop a) a=(if a=0 then 40 else 44)::(k[a].2.data.toList++gH (k.drop (a+1)) (a+1)):=by rw[dM h,gH]
def ahZ{k:List (dd×V9)}(h:a<Z k):mO ((k.map (·.1)).drop a) a=(if a=0 then [32,58,45,32] else [44,32])++(sK k[a].1++mO ((k.map (·.1)).drop (a+1)) (a+1)):=by rw[dM (oU h),mO];simp
def mU(s:B8):Z s.data.toList=s.size:=by rw[Bq];rfl
def adR(W v):(Instr.typeAssert (.iface 130 v) 191 193 Bt).run prog W=.ok (Vt #[Y ⟨#[]⟩,Vb Bf]) W:=oK
def Hr(B b:Nat)(w:W8)(l:List UInt8)(e:Ending)(w':W8):Prop:=e=Vr (Vt #[])/\Holds B b l w'/\Below B w w'/\iG w w'/\B<=F (X w')
def abA(B b l g s w)(h:Holds B b l w)(d:Z l+s.size<=140737488355328)(c:B<=F (X w)):Calls prog 168 #[Vp (P (C b 0 G)),nX g s] w (Hr B b w (l++s.data.toList)):=by
 have k:=MM;have j:=adR;have m:=ML;unfold nX
 cases g with
 |true=>rw[aD rfl];go_in;go_wp2_with fail;refine(AV B b l s _ h d c).mono ?_;rintro e n⟨rfl,i,a,f⟩;go_wp2;go_end0;exact⟨rfl,i,a,f,bf c a.size⟩
 |false=>rw[aB oD];go_in;go_wp2_with fail;refine(AV B b l s _ h d c).mono ?_;rintro e n⟨rfl,i,a,f⟩;go_wp2;go_end0;exact⟨rfl,i,a,f,bf c a.size⟩
def Holds.alloc{B l w}(h:Holds B a l w)(o):Holds B a l (Al w o):=by
 have c:∀p,Lib.BuilderAt 155 5 B a p (qy l) w->Lib.BuilderAt 155 5 B a p (qy l) (Al w o):=by rintro p⟨f,v,e,b,d⟩;exact⟨f,v,by rw[aW _ _ _ (aM.1 e).1];exact e,b.alloc o,d⟩
 rcases h with h|h
 .exact .inl (c _ h)
 exact .inr (c _ h)
def Km(B b l q a c R f w)(h:Holds B b l w)(i:Ow w R 191 1 (U a (Z f) c) (Z f) (jm f))(hlen:Z l+(gW q f).length<=1000000000)(hBw:B<=F (X w)):Calls prog 110 #[Vp (P (C b 0 G)),Va #[Y q,U a (Z f) c]] w (Hr B b w (l++gW q f)):=by
 have EZ:=ej i;unfold maxLen at EZ;have V:=mU q;have e0:(gW q f).length=q.size+((gH f 0).length+(if (Z f)=0 then([]:List UInt8) else [41]).length):=by simp only[gW,br,V]
 have D:(Al w (Vc #[Y q,U a (Z f) c] 79)).heap[F (X w)]?=_:=aG w _;have u:=(aZ (F (X w)) w).alloc L9 (Vc #[Y q,U a (Z f) c] 79);have T:=(iG.refl w).alloc (Vc #[Y q,U a (Z f) c] 79);have HE:=H (show l++gW q f=l++q.data.toList++(gH f 0++if (Z f)=0 then [] else [41]) by simp[gW]);go_in;go_wp2_with fail;refine(AV B b l q _ (h.alloc _) O oT).mono ?_;rintro e w1⟨rfl,y,k,m⟩;have j:=(u.mono hBw).trans k;have g:=T.trans m;have d:=m _ _ _ _ D oD oD;have n:=g.tM i oD oD;have dx:=k.size;rw[bL]at dx;obtain⟨p,E⟩:=aj d 0;obtain⟨x1,z⟩:=aj d 1;have N:=H i;clear D k m u T i h
 by_cases h:Z f=0
 .have hn0:((Z f:Int)==0)=true:=by simp[h]
  have i:f=[]:=zO.1 h;have m:=H (show l++gW q f=l++q.data.toList by rw[ag HE,i];simp[gH]);clear HE h i;go_wp2;go_end0;exact⟨rfl,by rw[ag m];exact y,j,g,O⟩
 have hn0:((Z f:Int)==0)=false:=by simp;exact λe=>h (by rw[e];rfl)
 have i:(if (Z f)=0 then([]:List UInt8) else [41])=[41]:=aB h;rw[i]at e0 HE;have D:([41]:List UInt8).length=1:=rfl;rw[D]at e0;clear i h;go_wp2
 go_loopg [17] (Z f) (λh i wr=>∃(k:Nat)(m:List UInt8),k<=Z f/\h=Z f-k/\i=I J k/\Holds B b m wr/\Below B w wr/\iG w wr/\(F (X w))<F (X wr)/\wr.heap[F (X w)]?=P (Vc #[Y q,U a (Z f) c] 79)/\m++gH (f.drop k) k=l++q.data.toList++gH f 0)
 exact⟨0,_,aI _,rfl,rfl,y,j,g,O,d,rfl⟩
 case round=>
  clear y j g d n p x1 E z;obtain⟨k,m,_,_,rfl,y,j,g,_,d,E⟩:=hrel;have u:=gQ Z E;simp only[br,V]at u
  by_cases T:k<Z f
  .have p:=anf T;have M:=H (p▸E);rw[p]at u;simp only[ff,br,mU]at u;clear E p;have n:=g.tM N oD oD;obtain⟨_,_,hv,_,_,_,_,hc⟩:=PI n k T;injection hv with h i2 p
   subst h p;obtain⟨p,K,h⟩:∃p K,f[k]=(p,K):=⟨_,_,rfl⟩;have Q:f[k].1=p:=(by rw[h]);have L:f[k].2=K:=(by rw[h]);rw[Q,L]at hc;rw[L]at M u;obtain⟨x1,z⟩:=aj d 1;clear h Q L n;have h:nX p K=.iface (if p then 130 else 193) (Y K):=rfl;rw[h]at hc;have L:=H h;clear h;generalize h:(if p then 130 else 193)=ty at hc;have Q:=H h;clear h
   cases k with
   |zero=>go_wp2_with fail;refine(Rg B b m 40 _ y O O).mono ?_;rintro e w2⟨rfl,A,i,h⟩;have W:=i.size;have n:=h _ _ _ _ d oD oD;have v:=j.trans i;have x:=g.trans h;clear i h d y j g x1 z;go_wp2_with fail;rw[<-ag Q,<-ag L];refine(abA B b _ p K _ A oT O).mono ?_;rintro e w3⟨rfl,S,r,s,uH⟩;have o:=s _ _ _ _ n oD oD;have OD:=r.size;have t:=H (And.intro S (And.intro (v.trans r) (And.intro (x.trans s) o)));clear n o A S r s v x;go_wp2;go_roundg(Z f-(0+1));exact⟨0+1,_,O,rfl,oN,t.1,t.2.1,t.2.2.1,O,t.2.2.2,by have:=ag M;simpa using this⟩;omega
   |succ k=>have Cm:(((k+1:Nat):Int)==0)=false:=oT;go_wp2_with fail;refine(Rg B b m 44 _ y O O).mono ?_;rintro e w2⟨rfl,A,i,h⟩;have W:=i.size;have n:=h _ _ _ _ d oD oD;have v:=j.trans i;have x:=g.trans h;clear i h d y j g x1 z;go_wp2_with fail;rw[<-ag Q,<-ag L];refine(abA B b _ p K _ A oT O).mono ?_;rintro e w3⟨rfl,S,r,s,uH⟩;have o:=s _ _ _ _ n oD oD;have OD:=r.size;have t:=H (And.intro S (And.intro (v.trans r) (And.intro (x.trans s) o)));clear n o A S r s v x;go_wp2;go_roundg(Z f-(k+1+1));exact⟨k+1+1,_,O,rfl,oN,t.1,t.2.1,t.2.2.1,O,t.2.2.2,by have:=ag M;simpa using this⟩;omega
  have p:f.drop k=[]:=gE O;rw[p]at E u;simp only[gH,kO,kB]at E u;have M:=H E;clear E p;go_wp2_with fail;refine(Rg B b m 41 _ y O O).mono ?_;rintro e w2⟨rfl,A,i,h⟩;have W:=i.size;have t:=H (And.intro A (And.intro (j.trans i) (g.trans h)));clear y j g A i h d;go_wp2;go_end0;refine⟨rfl,?_,t.2.1,t.2.2,O⟩;rw[ag HE,<-qT,<-ag M];exact(t).1
variable {c:V9}{b d:W8}
def iG.na{w}(k:iG b d)(h:iR b a c w):iR d a c w:=
 ⟨k.tM h.row oD oD,λx e=>k.tM (h.aK x e) oD oD⟩
def iG.bB{e}(k:iG b d)(h:gi b a c e):gi d a c e:=
 ⟨k.tM h.row oD oD,λr w=>⟨k.tM (h.aK r w).hd oD oD,k.na (h.aK r w).bo,(h.aK r w).eq⟩⟩
def abt(B b l L a c g w)(h:Holds B b l w)(f:Ow w g 191 1 (U a (Z L.ts) c) (Z L.ts) (jm L.ts))(E:Z l+(sK L).length<=1000000000)(v:B<=F (X w)):Calls prog 112 #[Vp (P (C b 0 G)),Va #[Vb L.neg,Y L.pd,U a (Z L.ts) c]] w (Hr B b w (l++sK L)):=by
 have j:(Al w (Vc #[Vb L.neg,Y L.pd,U a (Z L.ts) c] 183)).heap[F (X w)]?=_:=aG w _;have r:=(aZ (F (X w)) w).alloc L9 (Vc #[Vb L.neg,Y L.pd,U a (Z L.ts) c] 183);have q:=(iG.refl w).alloc (Vc #[Vb L.neg,Y L.pd,U a (Z L.ts) c] 183);have m:(sK L).length=(if L.neg then([110,111,116,32]:List UInt8) else []).length+(gW L.pd L.ts).length:=by simp only[sK,br]
 cases s:L.neg with
 |true=>rw[s]at m j r q;simp only[lM,ff,kB]at m;have x:=H (show l++sK L=l++[110,111,116,32]++gW L.pd L.ts by simp[sK,s]);clear s;go_in;go_wp2_with fail;refine(AV B b l ⟨#[110,111,116,32]⟩ _ (h.alloc _) (by simp[ByteArray.size];omega) oT).mono ?_;rintro e Q⟨rfl,D,k,n⟩;have u:=(r.mono v).trans k;have o:=q.trans n;have i:=n _ _ _ _ j oD oD;have d:=o.tM f oD oD;have y:=k.size;rw[bL]at y;obtain⟨M,z⟩:=aj i 1;obtain⟨N,A⟩:=aj i 2;clear j k n r q f h i;go_wp2_with fail;refine(Km B b _ L.pd a c g L.ts _ D d oT O).mono ?_;rintro e K⟨rfl,t,i,k,p⟩;have n:=H (And.intro t (And.intro (u.trans i) (o.trans k)));clear D u o d M N z A t i k;go_wp2;go_end0;exact⟨rfl,by rw[ag x];exact(n).1,n.2.1,n.2.2,p⟩
 |false=>rw[s]at m j r q;simp only[qi,pG,kB]at m;have x:=H (show l++sK L=l++gW L.pd L.ts by simp[sK,s]);have d:=q.tM f oD oD;clear s f;go_in;go_wp2_with fail;refine(Km B b _ L.pd a c g L.ts _ (h.alloc _) d O oT).mono ?_;rintro e K⟨rfl,t,i,k,p⟩;have n:=H (And.intro t (And.intro ((r.mono v).trans i) (q.trans k)));clear d t i k r q j;go_wp2;go_end0;exact⟨rfl,by rw[ag x];exact(n).1,n.2.1,n.2.2,p⟩
def aoi(B b l v s a c W c' g d w)(h:Holds B b l w)(e:Ow w g 191 1 (U a (Z s) c) (Z s) (jm s))(k:iR w g (U W (Z d) c') d)(hlen:Z l+(sQ ⟨v,s,d.map (·.1)⟩).length<=1000000000)(hBw:B<=F (X w)):Calls prog 71 #[Vp (P (C b 0 G)),Va #[Y v,U a (Z s) c,U W (Z d) c']] w (Hr B b w (l++sQ ⟨v,s,d.map (·.1)⟩)):=by
 have hlm:=ej k.row;unfold maxLen at hlm;have q:(Al w (Vc #[Y v,U a (Z s) c,U W (Z d) c'] 123)).heap[F (X w)]?=_:=aG w _;have M:=(aZ (F (X w)) w).alloc L9 (Vc #[Y v,U a (Z s) c,U W (Z d) c'] 123);have Q:=(iG.refl w).alloc (Vc #[Y v,U a (Z s) c,U W (Z d) c'] 123);have mM:(sQ ⟨v,s,d.map (·.1)⟩).length=(gW v s).length+((mO (d.map (·.1)) 0).length+2):=by simp[sQ]
 have HE:=H (show l++sQ ⟨v,s,d.map (·.1)⟩=l++gW v s++mO (d.map (·.1)) 0++[46,10] by simp[sQ]);have i:=Q.tM e oD oD;have HL:=H k;clear e k;go_in;go_wp2_with fail;refine(Km B b l v a c g s _ (h.alloc _) i O oT).mono ?_;rintro e w1⟨rfl,N,k,m,_⟩;have n:=(M.mono hBw).trans k;have j:=Q.trans m;have r:=m _ _ _ _ q oD oD;have XI:=k.size;rw[bL]at XI;obtain⟨t,K⟩:=aj r 2;clear q k m M Q i h;go_wp2
 go_loopg [13] (Z d) (λh i wr=>∃(k:Nat)(m:List UInt8),k<=Z d/\h=Z d-k/\i=I J k/\Holds B b m wr/\Below B w wr/\iG w wr/\(F (X w))<F (X wr)/\m++mO ((d.map (·.1)).drop k) k=l++gW v s++mO (d.map (·.1)) 0)
 exact⟨0,_,aI _,rfl,rfl,N,n,j,O,rfl⟩
 case round=>
  clear N n j r t K;obtain⟨k,m,_,_,rfl,N,n,j,_,Q⟩:=hrel;have r:=gQ Z Q;simp only[br]at r
  by_cases K:k<Z d
  .have i:=ahZ K;have HM:=H (i▸Q);rw[i]at r;simp only[br]at r;clear Q i;have i:=j.na HL;obtain⟨_,_,hv,_,_,_,_,M⟩:=gu FI i.row k K;injection hv with h i2 t
   subst h t;obtain⟨t,u,h⟩:=aF (i.aK _ (aN K));have q0:=M 0 O;have q1:=M 1 O;have q2:=M 2 O;simp only[dd.cells,h,iy,aT,bx]at q0 q1 q2;have f:=HL.aK _ (aN K);rw[h]at f;have V:=H f;have q:(Al wr (Vc #[Vb d[k].1.neg,Y d[k].1.pd,U t d[k].1.ts.length u] 183)).heap[F (X wr)]?=_:=aG wr _;have A:=N.alloc (Vc #[Vb d[k].1.neg,Y d[k].1.pd,U t d[k].1.ts.length u] 183);have D:=n.alloc O (Vc #[Vb d[k].1.neg,Y d[k].1.pd,U t d[k].1.ts.length u] 183);have E:=j.alloc (Vc #[Vb d[k].1.neg,Y d[k].1.pd,U t d[k].1.ts.length u] 183);clear M h f i N n j
   cases k with
   |zero=>simp only[lM,ff,kB]at r;go_wp2_with fail;refine(AV B b m ⟨#[32,58,45,32]⟩ _ A (by simp[ByteArray.size];omega) oT).mono ?_;rintro e w2⟨rfl,M,h,f⟩;have i:=f _ _ _ _ q oD oD;have y:=D.trans h;have o:=E.trans f;have L:=h.size;rw[bL]at L;obtain⟨y0,R⟩:=aj i 0;obtain⟨y1,S⟩:=aj i 1;obtain⟨y2,T⟩:=aj i 2;clear q h f A D E q0 q1 q2 i;go_wp2_with fail;refine(abt B b _ d[0].1 t u g _ M (o.tM V oD oD) oT O).mono ?_;rintro e w3⟨rfl,h3,p,z,uH⟩;have OD:=p.size;have x:=H (And.intro h3 (And.intro (y.trans p) (o.trans z)));clear M h3 p z y o y0 y1 y2 R S T;go_wp2;go_roundg(Z d-(0+1));exact⟨0+1,_,O,rfl,oN,x.1,x.2.1,x.2.2,O,by have:=ag HM;simpa using this⟩;omega
   |succ k=>have Cm:(((k+1:Nat):Int)==0)=false:=oT;simp only[L4,L8,BJ,pG,ff,kB]at r;go_wp2_with fail;refine(AV B b m ⟨#[44,32]⟩ _ A (by simp[ByteArray.size];omega) oT).mono ?_;rintro e w2⟨rfl,M,h,f⟩;have i:=f _ _ _ _ q oD oD;have y:=D.trans h;have o:=E.trans f;have L:=h.size;rw[bL]at L;obtain⟨y0,R⟩:=aj i 0;obtain⟨y1,S⟩:=aj i 1;obtain⟨y2,T⟩:=aj i 2;clear q h f A D E q0 q1 q2 i;go_wp2_with fail;refine(abt B b _ d[k+1].1 t u g _ M (o.tM V oD oD) oT O).mono ?_;rintro e w3⟨rfl,h3,p,z,uH⟩;have OD:=p.size;have x:=H (And.intro h3 (And.intro (y.trans p) (o.trans z)));clear M h3 p z y o y0 y1 y2 R S T;go_wp2;go_roundg(Z d-(k+1+1));exact⟨k+1+1,_,O,rfl,oN,x.1,x.2.1,x.2.2,O,by have:=ag HM;simpa using this⟩;omega
  have t:(d.map (·.1)).drop k=[]:=gE oT;rw[t]at Q r;simp only[mO,kO,kB]at Q r;have HM:=H Q;clear Q t;go_wp2_with fail;refine(AV B b m ⟨#[46,10]⟩ _ N (by simp[ByteArray.size];omega) O).mono ?_;rintro e w2⟨rfl,M,h,f⟩;have L:=h.size;have x:=H (And.intro M (And.intro (n.trans h) (j.trans f)));clear N n j M h f;go_wp2;go_end0;refine⟨rfl,?_,x.2.1,x.2.2,O⟩;rw[ag HE,<-ag HM];exact(x).1
def akt{r}(h:l6 b a r):r.R=⟨r.R.pd,r.R.ts,r.bs.map (·.1)⟩:=by rw[h.eq]
def aoh(w g N Q a)(h:gi w g (U N (Z a) Q) a)(R:(nr (a.map (·.R))).length<=1000000000):Calls prog 44 #[U N (Z a) Q] w λe L=>e=Vr (Y ⟨(nr (a.map (·.R))).toArray⟩)/\Below (F (X w)) w L:=by
 have L:=ej h.row;unfold maxLen at L;have c:Holds (F (X w)) (F (X w)) [] (Al w (Vc #[Vp G,U G 0 0] 155)):=Lib.fresh_isBuilder 155 5 w;have b:=(aZ (F (X w)) w).alloc L9 (Vc #[Vp G,U G 0 0] 155);have n:=(iG.refl w).alloc (Vc #[Vp G,U G 0 0] 155);have u:=H h;clear h;go_in;go_wp2
 go_loopg [8] (Z a) (λh i wr=>∃(k:Nat)(m:List UInt8),k<=Z a/\h=Z a-k/\i=I J k/\Holds (F (X w)) (F (X w)) m wr/\Below (F (X w)) w wr/\iG w wr/\(F (X w))<F (X wr)/\m++nr ((a.map (·.R)).drop k)=nr (a.map (·.R)))
 exact⟨0,[],aI _,rfl,rfl,c,b,n,oS,rfl⟩
 case round=>
  clear c b n;obtain⟨k,m,_,_,rfl,E,b,c,_,n⟩:=hrel;have t:=gQ Z n;simp only[br]at t
  by_cases s:k<Z a
  .have i:nr ((a.map (·.R)).drop k)=sQ a[k].R++nr ((a.map (·.R)).drop (k+1)):=by
    rw[dM (oU s)];simp[nr]
   rw[i]at n t;simp only[br]at t;have K:=H n;clear n i;have y:=c.bB u;obtain⟨_,_,M,_,_,_,_,d⟩:=gu AG y.row k s;injection M with i h5 p
   subst i p;have i:=u.aK _ (aN s);obtain⟨A,D,p⟩:=aF i.hd;obtain⟨z,B,o⟩:=aF i.bo.row;have S:=d 0 O;have T:=d 1 O;have V:=d 2 O;simp only[PR.cells,p,o,iy,aT,bx]at S T V;have r:=i.hd;rw[p]at r;have q:=i.bo;rw[o]at q;have f:=H (akt i);have v:=E.alloc (Vc #[Y a[k].R.pd,U A a[k].R.ts.length D,U z a[k].bs.length B] 123);have x:=b.alloc O (Vc #[Y a[k].R.pd,U A a[k].R.ts.length D,U z a[k].bs.length B] 123);have h:=c.alloc (Vc #[Y a[k].R.pd,U A a[k].R.ts.length D,U z a[k].bs.length B] 123);have l:=h.tM r oD oD;have j:=h.na q;have W:(sQ ⟨a[k].R.pd,a[k].R.ts,a[k].bs.map (·.1)⟩).length=(sQ a[k].R).length:=(by rw[<-ag f]);clear d i p o r q y E b c;go_wp2_with fail;refine(aoi (F (X w)) (F (X w)) m a[k].R.pd a[k].R.ts A D z B g a[k].bs _ v l j O oT).mono ?_;rintro e p⟨rfl,o,i,y,_⟩;have q:=i.size;rw[bL]at q;rw[<-ag f]at o;have r:=H (And.intro o (And.intro (x.trans i) (h.trans y)));clear v l j x h o i y S T V;go_wp2;go_roundg(Z a-(k+1));exact⟨k+1,_,O,rfl,oN,r.1,r.2.1,r.2.2,O,by have:=ag K;simpa using this⟩;omega
  have f:(a.map (·.R)).drop k=[]:=gE oT;rw[f]at n;simp only[nr,List.flatMap_nil,kO]at n;have K:=H n;clear n f;go_wp2_with fail;refine(Builder_String_any (F (X w)) (F (X w)) m _ E O).mono ?_;rintro e p⟨rfl,i⟩;have f:=H (b.trans i);clear E b c i;go_wp2;go_ret;exact⟨by rw[ag K];rfl,f⟩
def pf(a b)(h:a.size+b.size<=2000000000)(w):(Op.stringOp .add a b).run prog w=.ok (Y (a++b)) w:=run_string_add_sum w a b O
def Fq(c):(ByteArray.mk #[c]).size=1:=rfl
def CK(c d):(ByteArray.mk #[c,d]).size=2:=rfl
def xy(c d e f):(ByteArray.mk #[c,d,e,f]).size=4:=rfl
def zY(a b:B8):(a++b).data.toList=a.data.toList++b.data.toList:=oS
def vu(a b:B8):(a++b).size=a.size+b.size:=by simp[ByteArray.size_append]
def fR(A:aR):List UInt8:=gW A.ax (A.aq.map fV)
def alB{l k}(h:k<Z l):gH ((l.map fV).drop k) k=(if k=0 then 40 else 44)::(l[k].text.data.toList++gH ((l.map fV).drop (k+1)) (k+1)):=by rw[dM (oU h),gH];simp[fV]
def aa6(w b A a c)(h:Ow w b 317 3 (U a (Z A.aq) c) (Z A.aq) (cellsOf A.aq))(p:(fR A).length<=1000000000):Calls prog 134 #[Va #[Y A.ax,U a (Z A.aq) c,Vb A.no,I J A.aC,I J A.aO]] w λe n=>∃s,e=Vr (Y s)/\s.data.toList=fR A/\Below (F (X w)) w n:=by
 have n:=ej h;unfold maxLen at n;have f:=mU A.ax;have l:=(aZ (F (X w)) w).alloc L9 (Vc #[Y A.ax,U a (Z A.aq) c,Vb A.no,I J A.aC,I J A.aO] 243);have r:=aQ h l (λg e=>(h.lt g e).2);have q:(fR A).length=A.ax.size+((gH (A.aq.map fV) 0).length+(if (Z A.aq)=0 then([]:List UInt8) else [41]).length):=by simp[fR,gW,f]
 have j:=H (show fR A=A.ax.data.toList++(gH (A.aq.map fV) 0++if (Z A.aq)=0 then [] else [41]) by simp[fR,gW]);clear h;go_in;go_wp2
 go_loop [3,4] (λv i=>∃(k:Nat)(s:B8),k<=Z A.aq/\v=Y s/\i=I J k/\s.data.toList++gH ((A.aq.map fV).drop k) k=A.ax.data.toList++gH (A.aq.map fV) 0) (λ_ i=>Z A.aq-(intOf i).toNat)
 exact⟨0,A.ax,aI _,rfl,rfl,rfl⟩
 case round=>
  obtain⟨k,s,_,rfl,rfl,h⟩:=hrel;have i:=gQ Z h;simp only[br,f,mU]at i
  by_cases d:k<Z A.aq
  .have v:=alB d;rw[v]at h i;simp only[ff,br,mU]at i;have e:=H h;clear h v;obtain⟨g,_,t,_,_,_,_,_,_,_⟩:=zn r k d;injection t with o u v
   subst o v
   cases k with
   |zero=>
    have o:=pf s ⟨#[40]⟩ (by rw[Fq];omega);have v:=pf (s++⟨#[40]⟩) A.aq[0].text (by rw[vu,Fq];omega);go_wp2
    go_round
    case rel=>exact⟨0+1,_,O,rfl,oN,by rw[zY,zY];have:=ag e;simpa using this⟩
    case measure=>simp[intOf];omega
   |succ k=>
    have m:(((k+1:Nat):Int)==0)=false:=oT;have o:=pf s ⟨#[44]⟩ (by rw[Fq];omega);have v:=pf (s++⟨#[44]⟩) A.aq[k+1].text (by rw[vu,Fq];omega);go_wp2
    go_round
    case rel=>exact⟨k+1+1,_,O,rfl,oN,by rw[zY,zY];have:=ag e;simpa using this⟩
    case measure=>simp[intOf];omega
  have v:(A.aq.map fV).drop k=[]:=gE oT;rw[v]at h i;simp only[gH,kO,kB]at h i;have e:=H h;clear h v
  by_cases v:Z A.aq=0
  .have m:¬(0<(Z A.aq:Int)):=O;have h:=H (show fR A=A.ax.data.toList++gH (A.aq.map fV) 0 by rw[ag j,aD v];simp);clear j v;go_wp2;go_ret;exact⟨s,rfl,by rw[ag e,ag h],l⟩
  have m:0<(Z A.aq:Int):=O
  have h:=H (show fR A=A.ax.data.toList++gH (A.aq.map fV) 0++[41] by rw[ag j,aB v];simp);rw[aB v,show([41]:List UInt8).length=1 from rfl]at q;have o:=pf s ⟨#[41]⟩ (by rw[Fq];omega);clear j v;go_wp2;go_ret;exact⟨_,rfl,by rw[zY,ag e,ag h],l⟩
def uP(w b A a c f)(x y:Nat)(h:Ow w b 317 3 (U a (Z A.aq) c) (Z A.aq) (cellsOf A.aq))(d:(fR A).length<=1000000000):Calls prog 134 #[Va #[Y A.ax,U a (Z A.aq) c,Vb f,I J x,I J y]] w λe g=>∃s,e=Vr (Y s)/\s.data.toList=fR A/\Below (F (X w)) w g:=
 aa6 w b ⟨A.ax,A.aq,f,x,y⟩ a c h d
abbrev ec:=List (B8×B8)
def tI:ec->B8->B8
 | [],_=>⟨#[]⟩
 |x::r,n=>if x.1.toList==n.toList then x.2 else tI r n
def nK(e:ec)(t:ie):B8:=if t.jv then tI e t.text else t.text
variable {a:ec}{b:Nat}
def afr{n}(h:b<Z a):tI (a.drop b) n=if a[b].1.toList==n.toList then a[b].2 else tI (a.drop (b+1)) n:=by rw[dM h];rfl
def mz:ec->List ie->List ie->Option ec
 |e,t::ts,u::us=>if(nK e t).toList==[] then mz (e++[(t.text,u.text)]) ts us else if(nK e t).toList==u.text.toList then mz e ts us else G
 |e,_,_=>P e
def gY(e:ec)(a th:aR):Option ec:=if a.ax.toList==th.ax.toList&&Z a.aq==(Z th.aq) then mz e a.aq th.aq else G
def vU(e:ec)(t:ie):ie:=⟨nK e t,Bf,0⟩
def bk(e:ec)(a:aR):aR:=⟨a.ax,a.aq.map (vU e),Bf,0,0⟩
def aiu{e k}(h:b<Z e)(c:b<Z k):mz a (e.drop b) (k.drop b)=if(nK a e[b]).toList==[] then mz (a++[(e[b].text,k[b].text)]) (e.drop (b+1)) (k.drop (b+1)) else if(nK a e[b]).toList==k[b].text.toList then mz a (e.drop (b+1)) (k.drop (b+1)) else none:=by rw[dM h,dM c];rfl
structure jz(w:W8)(base:Nat)(e:ec)(nv tv:V9):Prop where
 ns:Ow w base 9 1 nv (Z e) (e.map λx=>Y x.1)
 ts:Ow w base 9 1 tv (Z e) (e.map λx=>Y x.2)
 nil:e=[]->nv=U G 0 0/\tv=U G 0 0
variable {d:V9}
def jz.ai{w}(h:jz e b a d c)(k:Below (F (X e)) e w):jz w b a d c:=⟨aQ h.ns k (λg a=>(h.ns.lt g a).2),aQ h.ts k (λg a=>(h.ts.lt g a).2),h.nil⟩
def jz.alloc(h:jz e b a d c)(o):jz (Al e o) b a d c:=⟨h.ns.alloc _,h.ts.alloc _,h.nil⟩
def jz.shape(h:jz e b a c d):∃g i w f,c=U g (Z a) i/\d=U w (Z a) f:=by obtain⟨g,i,j⟩:=aF h.ns;obtain⟨w,f,k⟩:=aF h.ts;exact⟨g,i,w,f,j,k⟩
def acR(s:B8)(w:W8):Ending->W8->Prop:=λe w'=>e=Vr (Y s)/\Below (F (X w)) w w'
def aab(w l E d b e f)(h:jz w l E (U d (Z E) e) (U b (Z E) f))(a v)(c:Nat):Calls prog 197 #[Va #[U d (Z E) e,U b (Z E) f],Va #[Y a,Vb v,I J c]] w (acR (nK E ⟨a,v,c⟩) w):=by
 have q:=ej h.ns;unfold maxLen at q;have i:=((aZ (F (X w)) w).alloc L9 (Vc #[U d (Z E) e,U b (Z E) f] 258)).alloc oS (Vc #[Y a,Vb v,I J c] 317);have m:(Al (Al w (Vc #[U d (Z E) e,U b (Z E) f] 258)) (Vc #[Y a,Vb v,I J c] 317)).heap[F (X w)]?=P (Vc #[U d (Z E) e,U b (Z E) f] 258):=by rw[aW _ _ _ oS];exact aG w _
 have n:(Al (Al w (Vc #[U d (Z E) e,U b (Z E) f] 258)) (Vc #[Y a,Vb v,I J c] 317)).heap[F (X w)+1]?=P (Vc #[Y a,Vb v,I J c] 317):=by have:=aG (Al w (Vc #[U d (Z E) e,U b (Z E) f] 258)) (Vc #[Y a,Vb v,I J c] 317);rw[bL]at this;exact this
 have k:=(h.alloc (Vc #[U d (Z E) e,U b (Z E) f] 258)).alloc (Vc #[Y a,Vb v,I J c] 317)
 cases v with
 |false=>clear k h m n;go_in;go_wp2;go_ret;exact⟨rfl,i⟩
 |true=>
  have x:=H (show nK E ⟨a,Bt,c⟩=tI E a from rfl);have g:=H m;have j:=H n;have r:=H k;have o:=H i;clear h m n k i;go_in;go_wp2
  go_loopg [5] (Z E) (λh i wr=>∃k:Nat,k<=Z E/\h=Z E-k/\i=I J k/\tI (E.drop k) a=tI E a/\Below (F (X w)) w wr/\wr.heap[F (X w)]?=P (Vc #[U d (Z E) e,U b (Z E) f] 258)/\wr.heap[F (X w)+1]?=P (Vc #[Y a,Vb Bt,I J c] 317)/\jz wr l E (U d (Z E) e) (U b (Z E) f))
  exact⟨0,aI _,rfl,rfl,rfl,o,g,j,r⟩
  case round=>
   clear o g j r;obtain⟨k,_,_,rfl,i,u,m,n,y⟩:=hrel;obtain⟨_,r⟩:=aj m 0;obtain⟨_,s⟩:=aj m 1;obtain⟨_,t⟩:=aj n 0;have h:=H i;have g:=H m;have j:=H n;have o:=H u;have p:=H y;clear i m n u y r s t
   by_cases i:k<Z E
   .have y:(k:Int)<Z E:=O;obtain⟨_,_,r,-,_,_,n⟩:=rZ p.ns O;obtain⟨_,_,s,-,_,_,m⟩:=rZ p.ts O;injection r with t z u
    subst t u;injection s with t z u
    subst t u;have u:=n k i;have t:=m k i;rw[gP,dr i]at u t;simp only[ve]at u t;clear n m;have m:=H (afr (n:=a) i);go_wp2;go_quiet(fail)
    cases n:E[k].1.toList==a.toList with
    |true=>go_wp2;go_ret;exact⟨by rw[ag x,<-ag h,ag m,aD n];rfl,below_drewN o _⟩
    |false=>go_wp2;go_roundg(Z E-(k+1));exact⟨k+1,O,rfl,oN,by rw[<-ag h,ag m,aB (by rw[n];decide)],below_drewN o _,g,j,p.ai (below_drewN B9 _)⟩;omega
   go_wp2;go_ret;exact⟨by rw[ag x,<-ag h,gE O];rfl,o⟩
section
open Go.RowKit Go.Maps
attribute [local go_sem ↓] tW tX wj tF pB qa p9 pY
attribute [local go_sem] Oper.semAt_some
attribute [local go_sem] ux xJ sT sR
def aiY(w R M ar cr f K h b)(hm:bQ w R K)(hr:gi w M (U ar (Z f) cr) f)(d:∀r∈f,Hl K r)(hK:Z K<=b)(hl:b<=50):Calls prog 99 #[.map (P R),U ar (Z f) cr,I J (h:Nat),I J (b:Nat)] w (ack w f K h b):=by
 have rQ:=ej hr.row;unfold maxLen at rQ;have HM:=H hm;have HR:=H hr;have qg:=H d;have sG:=hm.lt;clear hm hr d;refine callsIn_wide.1 (callsIn_of_wp_marks (F:=Fence.wide) (n:=5) func99 rfl trivial (wpIn_wide.2 ?_) rfl);simp only[ntmps99,G1,ff,kB,Nat.reduceAdd,Nat.reduceSub,GG,GH,GZ,GJ,ql,jA];have yX:=@run_makeMap prog;go_wp2_with fail;generalize a:World.alloc (World.alloc (World.alloc (World.alloc (World.alloc (World.alloc (World.alloc w _) _) _) _) _) _) _=w0;have d:oY w R (w.heap.size+1+1+1+1+1) h b K [] w0:=by rw[<-a];exact oY.start w R h b K HM
 have zE:=H d;clear a d;refine wp_loop_ghost_k (λp a wr=>∃(k:Nat)(ds:List Nat)(u:Nat->V9)(L:List (Th×Nat)),k<=Z f/\p=Z f-k/\a={ tmps:=#[Value.map (P R),U ar (Z f) cr,I J (h:Nat),I J (b:Nat),Vp (P (C w.heap.size 0 G)),undef,Vp (P (C (w.heap.size+1) 0 G)),Vp (P (C (w.heap.size+1+1) 0 G)),Vp (P (C (w.heap.size+1+1+1) 0 G)),Vp (P (C (w.heap.size+1+1+1+1) 0 G)),Vp (P (C (w.heap.size+1+1+1+1+1+1) 0 G)),undef,u 12,u 13,u 14,u 15,u 16,Value.map (P (w.heap.size+1+1+1+1+1)),U ar (Z f) cr,I J (Z f:Nat),I J (k:Nat),u 21,u 22,u 23,u 24,u 25,u 26,u 27,u 28,u 29,u 30,u 31,u 32,u 33,u 34,u 35,u 36,u 37,u 38,u 39,u 40,u 41,u 42,u 43,u 44,u 45,u 46,u 47,u 48,u 49,u 50],defers:=Ux ds }/\oY w R (w.heap.size+1+1+1+1+1) h b K L wr/\yv f K (f.take k) ⟨⟨⟨#[]⟩,[],[]⟩,undef,[],undef⟩ [] h L/\BO w ds wr/\(Z K)+Z L<=b) (Z f) ?_ ?_
 .exact⟨0,[],λ_=>undef,[],aI _,rfl,rfl,zE,⟨oS,oS,oS,oS,oS⟩,⟨oS,oS⟩,by simpa using hK⟩
 intro gk a wr p Jl Kl Nu VH;obtain⟨k,ds,u,L,_,_,rfl,d,N,o,hlen⟩:=p;have zE:=H d;have Sr:=H N;have Q:=H o;clear d N o
 by_cases gA:k<Z f
 .have d:=ag zE;obtain⟨r,o⟩:∃r,r=f[k]:=⟨_,rfl⟩;have l:r∈f:=by rw[o];exact aN gA
  have m:=HR.aK r l;have n:=ag qg r l;obtain⟨ah,ch,v⟩:=aF m.hd;obtain⟨ab,cb,W⟩:=aF m.bo.row;obtain⟨g,_,hv,_,qE,_,_,hc⟩:=gu JK HR.row k gA;injection hv with h1 h2 h3
  subst h1 h3;have D:=d.bw;have B:Ce wr (C g (k*3) G)=P (Y r.R.pd):=by rw[o];exact(D.cell (p:=(C g (k*3) G)) qE).trans (hc 0 O)
  have e:Ce wr (C g (k*3+1) G)=P (U ah (Z r.R.ts) ch):=by rw[<-v,o];exact(D.cell (p:=(C g (k*3+1) G)) qE).trans (hc 1 O)
  have t:Ce wr (C g (k*3+2) G)=P (U ab (Z r.bs) cb):=by rw[<-W,o];exact(D.cell (p:=(C g (k*3+2) G)) qE).trans (hc 2 O)
  obtain⟨z,-⟩:=aj d.k4 0;simp only[bt,aT]at z;have kf:(k:Int)<Z f:=O
  have c:w.heap.size<wr.heap.size:=(aM.1 d.k4).1;obtain⟨s,-⟩:=aj ((aW wr (Vc #[Y r.R.pd,U ah (Z r.R.ts) ch,U ab (Z r.bs) cb] 123) _ c).trans d.k4) 0;have q:xd (λi=>i=w.heap.size+1+1+1+1+1) (Al wr (Vc #[Y r.R.pd,U ah (Z r.R.ts) ch,U ab (Z r.bs) cb] 123)) R (U ah (Z r.R.ts) ch) (U ab (Z r.bs) cb) M r.bs K:=by have A:Below w.heap.size w (Al wr (Vc #[Y r.R.pd,U ah (Z r.R.ts) ch,U ab (Z r.bs) cb] 123)):=D.alloc D.size _;have y:=m.bo;rw[W]at y;refine⟨y.ai A,HM.block (A.block _ sG),O,λx S g T=>by have:=((m.bo.aK x S).lt g T).2;omega,λi S=>by have:=(aM.1 d.yJ).1;simp;omega,n.l3,n.t4,_,_,_,rfl⟩
  have HW:=H (abr _ _ R r.R.pd _ _ M r.bs K q);have qf:=H m;have Bm:=H n;have Bd:=H l;have HRR:=H o;have abT:=H v;simp only[bt,aT]at s;clear d m n l o hc q W v h2 D;go_wp2_with(go_at_call 145;refine(HW).mono ?_;rintro en w1⟨rb,xb,eb,rfl,l,kW⟩;have oR:=H l;have DB:=H kW;clear l kW);have l:=ag oR;have kW:=ag DB;have d:=ag zE;have y:wr.heap.size+1<=w1.heap.size:=by have:=l.size;simpa using this
  have NJ:∀D∈ds,D<w1.heap.size:=λD m=>by have:=(aM.1 (Q.aC D m).2).1;omega
  have W:=(aM.1 d.yJ).1;have q:Below wr.heap.size wr w1:=oA.trans (l.mono oS);have o:BP w R h b K f (f.take k) r wr.heap.size ah ab ch cb ds [] L w1:=by have hn:=ag Sr;refine⟨d.ai q,⟨hn.hs,hn.nd,hn.new,hn.all,oS⟩,hlen,⟨Q.nd,λD m=>⟨(Q.aC D m).1,(q.block D (aM.1 (Q.aC D m).2).1).trans (Q.aC D m).2⟩⟩,(l.block _ oS).trans (aG wr _)⟩
  have qh:=H o;have HKW:=H q;have n:=H W;have zz:=H NJ;have v:=H y;clear l d o q W NJ y B e t z s c;refine(wpIn_wide (n:=5)).1 ?_;refine wpIn_rangeFunc_ownH (α:=kS K r.bs []) rfl O (gf:=233) (lb:=#[Vp (P (C rb 0 G)),Vp (P (C xb 0 G)),Vp (P (C eb 0 G))]) rfl trivial (enters_of func233 oK rfl)
   (apv _ _ w1 rb xb eb R r.R.pd _ _ M r.bs K [] kW Bm.neg (iY.nil _)) (λh1 h2=>bU.trans h1 h2) (λW l o y _ hl hc s=>I7 W l o y hl hc s) B9 (λ_=>rfl)
   (λ(pre:List (kS K r.bs []))(W:W8)=>∃s,BP w R h b K f (f.take k) r wr.heap.size ah ab ch cb ds (pre.map (λy:kS K r.bs []=>y.1)) s W/\w1.heap.size<=W.heap.size)
   (λ(c:Code)(_:List (kS K r.bs []))(W:W8)=>c=.ret/\∃s,Hf w R h b K f ds s W)
   (λpre A B q z T hr=>let ⟨s,o,hz⟩:=z;⟨s,o.grown T (λi e=>(hr i e).1) (by have:=ag n;have:=ag v;omega) (oF (ag v)) zz,bf hz T.size⟩)
   (λc pre A B q z T hr=>let ⟨hc,s,o⟩:=z;⟨hc,s,o.grown T (λi e=>(hr i e).1) (by have:=ag n;have:=ag v;omega) zz⟩)
   ⟨L,qh,bD _⟩
   (λ(x:kS K r.bs [])(a':Act)(W:W8)=>∃Bx,w1.heap.size<=Bx/\BV W Bx x.1/\a'={ tmps:=List.toArray ((Value.map (P R))::(U (P (C g 0 G)) (Z f) cr)::(I J (h:Nat))::(I J (b:Nat))::(Vp (P (C w.heap.size 0 G)))::(undef)::(Vp (P (C (w.heap.size+1) 0 G)))::(Vp (P (C (w.heap.size+1+1) 0 G)))::(Vp (P (C (w.heap.size+1+1+1) 0 G)))::(Vp (P (C (w.heap.size+1+1+1+1) 0 G)))::(Vp (P (C (w.heap.size+1+1+1+1+1+1) 0 G)))::(undef)::(Vp (P (C wr.heap.size 0 G)))::(Vp (P (C Bx 0 G)))::(u 14)::(u 15)::(u 16)::(Value.map (P (w.heap.size+1+1+1+1+1)))::(U (P (C g 0 G)) (Z f) cr)::(I J (Z f:Nat))::(I J (k:Nat))::(Vb Bt)::(Vp (P (C g (k*3) G)))::(Va #[Y r.R.pd,U ah (Z r.R.ts) ch,U ab (Z r.bs) cb])::(Va #[Y r.R.pd,U ah (Z r.R.ts) ch,U ab (Z r.bs) cb])::(Value.map (P R))::(Value.func (.func 233) #[] #[Vp (P (C rb 0 G)),Vp (P (C xb 0 G)),Vp (P (C eb 0 G))])::(ig x.1)::(u 28)::(u 29)::(u 30)::(u 31)::(u 32)::(u 33)::(u 34)::(u 35)::(u 36)::(u 37)::(u 38)::(u 39)::(u 40)::(u 41)::(u 42)::(u 43)::(u 44)::(u 45)::(u 46)::(u 47)::(u 48)::(u 49)::(u 50)::[]),defers:=[] })
   (λx a' _ A B q z T hr=>let ⟨Bx,h1,h2,h3⟩:=z;⟨Bx,h1,h2.grown T (λi e=>(hr i e).2),h3⟩)
   ?assign ?body ?done ?stop
  case assign=>
   intro l pre x W A p T;obtain⟨s,o,hz⟩:=p;have q:=H T;have HL:=H o;clear T o
   gi_wp2
   exact q _ _ ((KeepsOthers.alloc _ _).from _) ((bU.refl _ _).alloc _) ⟨s,HL.grown (BI W _ G) (B:=w1.heap.size) (λ_ e=>by cases e) (by have:=ag n;have:=ag v;omega) (oF (ag v)) zz,oT⟩ ⟨W.heap.size,hz,BV.new _ _,rfl⟩
  case body=>
   rintro l pre x a' W N6-⟨s,o,hz⟩ ⟨Bx,_,q,rfl⟩ -;obtain⟨T,A⟩:∃T,T=bM x.1 (cq r):=⟨_,rfl⟩;have p:=(gI.1 x.2).1;have t:fY T:=(by rw[A];exact(Bm).hd x.1 p);have E:=Bm.len x.1 p;have WD:=q.load;obtain⟨q0,-⟩:=aj o.rl 0;obtain⟨q1,-⟩:=aj o.rl 1;simp only[bt,aT,bx]at q0 q1;have B:Ow W M 191 1 (U ah (cq r).ts.length ch) (cq r).ts.length ((cq r).ts.map kx):=by have:=aQ qf.hd o.box.bw (λg e=>(qf.hd.lt g e).2);rw[ag abT]at this;exact this
   have ud:=H (CX W M x.1 (cq r) ah ch B Bm.h4 E);rw[<-A]at ud;have HL:=H o;have yh:=H A;have HT:=H t;have KI:=H q;clear o A t q B p E
   have KY:=H (λ(w4:W8)(A:Below W.heap.size W w4)=>(show BP w R h b K f (f.take k) r wr.heap.size ah ab ch cb ds (pre.map (λy:kS K r.bs []=>y.1)) s (Al w4 (Vc (bP T).toArray 88))/\Below W.heap.size W (Al w4 (Vc (bP T).toArray 88)) from by
    have y:Below W.heap.size W (Al w4 (Vc (bP T).toArray 88)):=A.alloc A.size _
    exact⟨HL.grown (row:=G) ⟨y.os,y.tape,y.output,y.size,λi S _=>y.block i S⟩ (B:=w1.heap.size) (λ_ e=>by cases e) (by have:=ag n;have:=ag v;omega) (oF (ag v)) zz,y⟩))
   have wz:=H (λ(V:W8)(E:List (Th×Nat))(y:oY w R (w.heap.size+1+1+1+1+1) h b K E V)=>(show V.cell? (C w.heap.size 0 G)=P (.map (P R))/\V.cell? (C (w.heap.size+1) 0 G)=P (I J (h:Nat))/\V.cell? (C (w.heap.size+1+1) 0 G)=P (I J (b:Nat))/\V.cell? (C (w.heap.size+1+1+1+1+1+1) 0 G)=P (.map (P (w.heap.size+1+1+1+1+1))) from ⟨(aj y.k4 0).1,(aj y.h6 0).1,(aj y.l7 0).1,(aj y.yJ 0).1⟩));have zw:=H (show w.heap.size+1+1+1+1+1+1<w1.heap.size by have:=ag n;have:=ag v;omega)
   cases ho:(bK K T).isSome with
   |true=>
    gi_wp2_with (refine⟨trivial,?_⟩;gi_at_call 146;refine(CallsIn.inRound l (callsIn_wide.2 ud)).mono ?_;rintro en w4⟨A,rfl⟩;obtain⟨E,B⟩:=ag KY w4 A;obtain⟨m0,m1,m2,m3⟩:=ag wz _ _ E.box;have t5:=(TV.new w4 T).load;have Fu:=E.box.mK.look HT underlying83;rw[ho]at Fu;have HN:=H E;have q:=H B;clear E B A)
    refine⟨(KeepsOthers.of_grownBy (row:=G) ⟨q.os,q.tape,q.output,q.size,λi S _=>q.block i S⟩ (λ_ _ e=>by cases e)).from _,bU.bC q,s,?_,bf hz q.size⟩;have E:=ag HN;refine⟨E.box,?_,E.len,E.nQ,E.rl⟩;rw[fg];exact E.new.old (by rw[<-ag yh];exact ho)
   |false=>
    have y:bK K T=none:=(oU ho);have uW:=H y;clear y;have p:=ZP s T h;have yV:(kh s T h).length<=Z s+1:=(by rw[p];split<;>omega);have Cq:=HL.len;have HL2:=H p;clear p;have NB:=ag zw
    by_cases Oe:b<Z K+(kh s T h).length
    .have hoi:(b:Int)<(Z K:Int)+((kh s T h).length:Int):=O
     gi_wp2_with (refine⟨trivial,?_⟩;gi_at_call 146;refine(CallsIn.inRound l (callsIn_wide.2 ud)).mono ?_;rintro en w4⟨A,rfl⟩;obtain⟨E,B⟩:=ag KY w4 A;obtain⟨m0,m1,m2,m3⟩:=ag wz _ _ E.box;have t5:=(TV.new w4 T).load;have Fu:=E.box.mK.look HT underlying83;rw[ho]at Fu;obtain⟨w6,IV,EL,p⟩:=E.box.mF.put HT h oM underlying83;have t:=E.box.xQ p.grown EL;obtain⟨p0,p1,p2,p3⟩:=ag wz _ _ t;have ln1:=t.mK.len underlying83;have ln2:=t.mF.len underlying83;have HN:=H E;have q:=H B;have Bh:=H t;have Li:=H p.grown;obtain⟨v8,z8⟩:=aj t.r8 0;obtain⟨v9,z9⟩:=aj t.o9 0;simp only[bt,aT]at v8 v9;clear E B A t p EL)
     have E:=ag HN;have B:=ag q;have t:=ag Bh;have g6:=ag Li;have Af:KeepsFrom w1.heap.size W w6:=((KeepsOthers.of_grownBy (row:=G) ⟨B.os,B.tape,B.output,B.size,λi S _=>B.block i S⟩ (λ_ _ e=>by cases e)).from _).trans (KeepsFrom.of_grownBy g6 (λj e=>by cases e;omega));rw[QE t.r8 rfl,QE t.o9 rfl];have EP:=E.new.put (e:=x.1) Bd x.2 (by rw[<-ag yh];exact uW);rw[<-ag yh]at EP;exact⟨Af,rfl,kh s T h,t,EP.nd,EP.new,Oe,⟨E.nQ.nd,λD m=>⟨(E.nQ.aC D m).1,(g6.block D (aM.1 (E.nQ.aC D m).2).1 (λe=>by cases e;have:=(E.nQ.aC _ m).1;omega)).trans (E.nQ.aC D m).2⟩⟩⟩
    have hoi:¬((b:Int)<(Z K:Int)+((kh s T h).length:Int)):=O
    gi_wp2_with (refine⟨trivial,?_⟩;gi_at_call 146;refine(CallsIn.inRound l (callsIn_wide.2 ud)).mono ?_;rintro en w4⟨A,rfl⟩;obtain⟨E,B⟩:=KY w4 A;obtain⟨m0,m1,m2,m3⟩:=ag wz _ _ E.box;have t5:=(TV.new w4 T).load;have Fu:=E.box.mK.look HT underlying83;rw[ho]at Fu;obtain⟨w6,IV,EL,p⟩:=E.box.mF.put HT h oM underlying83;have t:=E.box.xQ p.grown EL;obtain⟨p0,p1,p2,p3⟩:=wz _ _ t;have ln1:=t.mK.len underlying83;have ln2:=t.mF.len underlying83;have HN:=H E;have q:=H B;have Bh:=H t;have Li:=H p.grown;clear E B A t p EL)
    have E:=ag HN;have B:=ag q;have t:=ag Bh;have g6:=ag Li;have Af:KeepsFrom w1.heap.size W w6:=((KeepsOthers.of_grownBy (row:=G) ⟨B.os,B.tape,B.output,B.size,λi S _=>B.block i S⟩ (λ_ _ e=>by cases e)).from _).trans (KeepsFrom.of_grownBy g6 (λj e=>by cases e;omega));refine⟨Af,(bU.bC B).trans ((bU.refl _ _).grown g6 (λr e=>.inr (by cases e;rfl))),kh s T h,?_,bf hz Af.size⟩;have NJ:=ag zz;refine⟨t,?_,O,⟨E.nQ.nd,λD m=>⟨(E.nQ.aC D m).1,(g6.block D (aM.1 (E.nQ.aC D m).2).1 (λe=>by cases e;have:=(E.nQ.aC _ m).1;omega)).trans (E.nQ.aC D m).2⟩⟩,(g6.block _ (aM.1 E.rl).1 (λe=>by injection e with e;have:=ag n;omega)).trans E.rl⟩;rw[fg];have:=E.new.put (e:=x.1) Bd x.2 (by rw[<-ag yh];exact uW);rw[<-ag yh]at this;exact this
  case done=>
   rintro D xs W m q⟨s,o,hz⟩ t;have HL:=H o;have A:=H m;have HS:=H q;have B:=H t;have HJL:=H Nu;clear o m q t Nu;go_wp2_with fail;have o:=ag HL;have m:=ag A;have vD:w.heap.size+1+1+1+1+1+1<w1.heap.size:=(by have:=ag n;have:=ag v;omega);refine Handed.intro (Z f-(k+1)) O (HJL _ _ _ ⟨k+1,D::ds,λi=>if i=12 then Vp (P (C wr.heap.size 0 G)) else if i=21 then Vb Bt else if i=22 then Vp (P (C g (k*3) G)) else if i=23 then Va #[Y r.R.pd,U ah (Z r.R.ts) ch,U ab (Z r.bs) cb] else if i=24 then Va #[Y r.R.pd,U ah (Z r.R.ts) ch,U ab (Z r.bs) cb] else if i=25 then Value.map (P R) else if i=26 then Value.func (.func 233) #[] #[Vp (P (C rb 0 G)),Vp (P (C xb 0 G)),Vp (P (C eb 0 G))] else if i=49 then I J ((k:Int)+1) else u i,s,O,rfl,rfl,o.box,?_,⟨wN.2 ⟨λhm=>by have:=ag zz D hm;omega,o.nQ.nd⟩,λE T=>?_⟩,o.len⟩)
   .have hn:=o.new;refine⟨hn.hs,hn.nd,hn.new,λq p e j y=>?_,oS⟩;rw[jr gA]at p;rcases aS.1 p with p|p
    .exact hn.all q p e j y
    rw[bu.1 p,<-ag HRR]at j y⊢;exact hn.now e (aU.2 ⟨⟨e,j⟩,HS _,rfl⟩) y
   rcases bS.1 T with rfl|T
   .exact⟨O,B⟩
   exact o.nQ.aC E T
  case stop=>
   rintro D c pre W m-⟨rfl,s,o⟩ t;have HL:=H o;have A:=H m;have B:=H t;clear o m t
   gi_wp2
   have o:=ag HL;have m:=ag A;have vD:w.heap.size+1+1+1+1+1+1<w1.heap.size:=(by have:=ag n;have:=ag v;omega);refine zi (D::ds) _ (wN.2 ⟨λhm=>by have:=ag zz D hm;omega,o.nQ.nd⟩) (λE T=>?_) (λq z=>?_)
   .rcases bS.1 T with rfl|T
    .exact B
    exact(o.nQ.aC E T).2
   have y:∀i,i<=w.heap.size+1+1+1+1+1+1->i∉D::ds:=λi S hm=>by
    rcases bS.1 hm with rfl|hm
    .omega
    have:=(o.nQ.aC i hm).1;omega
   have q8:Ce q (C (w.heap.size+1+1+1) 0 G)=P (.map G):=(aj ((z.block (w.heap.size+1+1+1) (y _ O)).trans o.box.r8) 0).1;have q9:Ce q (C (w.heap.size+1+1+1+1) 0 G)=P (Vb Bf):=(aj ((z.block (w.heap.size+1+1+1+1) (y _ O)).trans o.box.o9) 0).1;refine⟨Vt #[.map G,Vb Bf],by simp[results,results99,go_sem,q8,q9],?_⟩;refine⟨⟨z.os.trans o.box.bw.os,z.tape.trans o.box.bw.tape,z.output.trans o.box.bw.output,by rw[z.size];exact o.box.bw.size,λi S=>(z.block i (y i O)).trans (o.box.bw.block i S)⟩,.inr ⟨rfl,s.map (·.1),o.nd,λt E=>?_,by rw[bF];exact o.len⟩⟩;obtain⟨p,hp,rfl⟩:=aU.1 E;exact o.new p hp
 have d:=ag zE;obtain⟨g,-⟩:=aj d.yJ 0;obtain⟨l,z8⟩:=aj d.r8 0;obtain⟨o,z9⟩:=aj d.o9 0;simp only[bt,aT]at g l o;clear d Nu VH;go_wp2_with fail;refine zi ds _ Q.nd (λD m=>?_) (λq z=>?_)
 .have:=(Q.aC D m).1;rw[cx _ _ _ _ oT,cx _ _ _ _ oT];exact(Q.aC D m).2
 have y:∀i,i<=w.heap.size+1+1+1+1+1+1->i∉ds:=λi S hm=>by have:=(Q.aC i hm).1;omega
 have q8:Ce q (C (w.heap.size+1+1+1) 0 G)=P (.map (P (w.heap.size+1+1+1+1+1))):=by rw[j8 (by exact z.block (w.heap.size+1+1+1) (y _ O)),ui _ _ _ _ oS,BH _ _ _ (by rw[l];rfl)]
 have q9:Ce q (C (w.heap.size+1+1+1+1) 0 G)=P (Vb Bt):=by rw[j8 (by exact z.block (w.heap.size+1+1+1+1) (y _ O)),BH _ _ _ (by rw[ui _ _ _ _ oS,o];rfl)]
 refine⟨Vt #[.map (P (w.heap.size+1+1+1+1+1)),Vb Bt],by simp[results,results99,go_sem,q8,q9],?_⟩;have d:=ag zE;have N:=ag Sr;have c:∀i,i<=w.heap.size+1+1+1+1+1+1->i≠w.heap.size+1+1+1->i≠w.heap.size+1+1+1+1->q.heap[i]?=wr.heap[i]?:=λi S h1 h2=>by
  rw[z.block _ (y _ S),cx _ _ _ _ (oU h2),cx _ _ _ _ (oU h1)]
 refine⟨⟨z.os.trans d.bw.os,z.tape.trans d.bw.tape,z.output.trans d.bw.output,by rw[z.size];simp;exact d.bw.size,λi S=>(c i O O O).trans (d.bw.block i S)⟩,.inl ⟨_,L,rfl,O,d.mF.block (c _ O O O),N.hs,λt=>?_,hlen⟩⟩
 constructor
 .intro E;obtain⟨n,hn⟩:=tq.1 E;exact N.new _ (rU hn)
 rintro⟨h1,r,hr,e,j,rfl⟩;exact N.all r (by rw[j7 O];exact hr) e j h1
end
end
section
section
open Go.RowKit Go.Maps
attribute [local go_sem ↓] pB qa p9 pY
attribute [local go_sem] sT sR
def ai4{L t}(h:∀n,(t,n)∉L):bK L t=none:=by
 cases a:bK L t with
 |none=>rfl
 |some n=>exact absurd (rU a) (h n)
structure RE(w:W8)(db sb rb:Nat)(D S:List (Th×Nat))(Lf:Th->Prop)(S1:List (Th×Nat))(cA:Nat)(wr:W8):Prop where
 rg:n9 wr sb rb S Lf cA
 m:bQ wr db (D++S1)
 mem:∀p,p∈S1↔p∈S/\¬Lf p.1
 len:Z S1+cA<=Z S
 k:ak [db] w wr
def abG(w:W8)(db:Nat)(D S:List (Th×Nat))(en:Ending)(w':W8):Prop:=(∃v,en=Vr v)/\ak [db] w w'/\∃S',bQ w' db (D++S')/\(∀p,p∈S'↔p∈S)/\(Z S')<=Z S
def aeK(w b c D S)(a:bQ w b D)(z:bQ w c S)(rR:b≠c)(n:∀p∈S,bK D p.1=G)(hl:Z D+Z S<=1000000):Calls prog 100 #[.map (P b),.map (P c)] w (abG w b D S):=by
 have W:=H a;have HS:=H z;have k:=H n;have hdl:=a.lt;have EU:=z.lt;clear a n;go_in;go_wp2_with(first|(at_range;refine Kr _ rfl _ 83 rfl underlying83 c S rfl z ?_;intro w1 a n g)|go_in)
 try go_frame
 have d:RE w b c (F (X w)) D S (λ_=>True) [] (Z S) w1:=by refine⟨a,by rw[kO];exact(W).kept n oS,λp=>⟨λh=>absurd h BA,λh=>absurd trivial h.2⟩,oS,⟨n.os,n.tape,n.output,n.size,λj e _=>n.block j e oS⟩⟩
 clear a n g z
 go_loopg [] (Z S) (λg wr=>∃(z:Th->Prop)(a:List (Th×Nat)),RE w b c (F (X w)) D S z a g wr)
 exact⟨_,_,d⟩
 case round=>
  clear d;obtain⟨z,a,j⟩:=hrel;have g:=j.rg;have d:=H j;clear j;go_wp2_with(first|(at_next;refine Kq _ rfl _ rfl c (F (X w)) S z gk rfl g ?_ ?_)|go_in)
  .intro n;have e:=H n;clear n g;go_wp2;go_end0;have j:=ag d;exact⟨⟨_,rfl⟩,j.k,a,j.m,λp=>⟨λh=>((j.mem p).1 h).1,λh=>(j.mem p).2 ⟨h,e p.1.1 p.1.2 p.2 h⟩⟩,by have:=j.len;omega⟩
  intro tp N n Q r x f e V i L s;generalize((tp,N):Th)=t at*;have j:=ag d;have E:=j.k.size;have R:fY t:=j.rg.map.ok _ x;have v:bQ Q b (D++a):=j.m.kept i oT;have y:bK (D++a) t=none:=ai4 λm u=>by
   rcases aS.1 u with u|u
   .exact vQ (k _ x) m u
   exact((j.mem _).1 u).2 f
  have m:kh (D++a) t n=D++(a++[(t,n)]):=by unfold kh;rw[y,qT];rfl
  have T:=j.len;have HT:=H R;have o:=H e;have A:=H i;have l:=H m;have q:=H x;have Sl:=H f;have B:=H (v.alloc (Vc (bP t).toArray 88));have M:=(TV.new Q t).load;have K:(D++a).length<maxLen:=by unfold maxLen;rw[br];omega
  clear L g e i v y m x f j R;go_wp2_with(at_mapUpdate;refine Rl _ rfl _ _ _ 83 rfl underlying83 b (D++a) rfl B K t n rfl rfl HT ?_;intro L f x);rw[ag l]at f;have m:=H f;have y:=H x;clear f x M s;go_wp2;go_roundg r
  case measure=>omega
  case rel=>
   have j:=ag d;have f:=ag A;have s:=y.grown;have R:=E;refine⟨λx=>z x/\¬x=t,a++[(t,n)],⟨?_,m,λp=>?_,by rw[br];simp;omega,?_⟩⟩
   .have i:=ag o;refine i.kT ?_ ?_
    .rw[s.block c (by have:=i.map.lt;simp;omega) oT,aW _ _ _ i.map.lt]
    rw[s.block (F (X w)) (by have:=i.lt;simp;omega) oT,aW _ _ _ i.lt]
   .rw[aS,j.mem]
    constructor
    .rintro(⟨i,x⟩|i)
     .exact⟨i,λh=>x h.1⟩
     rw[bu.1 i];exact⟨q,λh=>h.2 rfl⟩
    rintro⟨i,x⟩
    by_cases e:p.1=t
    .right
     have v:=sL (j.rg.map.nodup) i;have g:=sL (j.rg.map.nodup) q;have M:p.2=n:=by
      have:bK S p.1=P n:=by rw[e];exact g
      exact cI (v.symm.trans this)
     rw[bu,<-e,<-M]
    left
    exact⟨i,λh=>x ⟨h,e⟩⟩
   have x:ak [b] w Q:=j.k.grown f (λi e=>by cases e;left;omega);exact(x.alloc _).grown s (λi e=>by cases e;right;simp)
end
open Go.RowKit Go.Maps
def wY(w w':W8):Prop:=∀(b:Nat)(cs:Array V9)(t:TypeId)(fr:Nat×Nat),w.heap[b]?=P (Vc cs t fr)->w'.heap[b]?=P (Vc cs t fr)
variable {a:Nat}{d:V9}{b c:W8}
def wY.row(h:wY b c){e w n j}(f:Ow b a e w d n j):Ow c a e w d n j:=by
 refine gC f λg v=>?_
 rcases f.2 with⟨l,_⟩|⟨k,_,_,rfl,_,i,_⟩
 .rw[l]at v;cases v
 have e:k=g:=by simpa[Value.ownBlock]using v
 subst e;exact(h _ _ _ _ i).trans i.symm
def wY.aih(h:wY b c){e}(w:iR b a d e):iR c a d e:=⟨h.row w.row,λx f=>h.row (w.aK x f)⟩
variable {f:List PR}
def wY.alx(h:wY b c)(w:gi b a d f):gi c a d f:=⟨h.row w.row,λr e=>⟨h.row (w.aK r e).hd,h.aih (w.aK r e).bo,(w.aK r e).eq⟩⟩
variable {e:List (Th×Nat)}
def wY.ajk(K:bQ b a e)(k:ak [a] b c):wY b c:=λw h t f d=>by
 refine(k.block w (aM.1 d).1 ?_).trans d;simp only[bu];rintro rfl;obtain⟨_,_,h⟩:=K.isMap;rw[d]at h;cases h
inductive vi (rs:List PR)(limit:Nat):Nat->List (Th×Nat)->Option (List (Th×Nat))->Prop
 |over {h:Nat} {K:List (Th×Nat)} (L:List Th):L.Nodup->(∀t∈L,qn rs K t)->limit<Z K+Z L->vi rs limit h K G
 |done {h:Nat} {K:List (Th×Nat)}:(∀t,¬qn rs K t)->vi rs limit h K (P K)
 |jP {h:Nat} {K L:List (Th×Nat)} {r:Option (List (Th×Nat))}:L≠[]->(L.map (·.1)).Nodup->(∀p∈L,p.2=h)->(∀t,(∃n,(t,n)∈L)↔qn rs K t)->Z K+Z L<=limit->vi rs limit (h+1) (K++L) r->vi rs limit h K r
def uT(rs:List PR)(TI:Th->Prop):Prop:=∀K:List (Th×Nat),(∀p∈K,TI p.1)->∀r∈rs,Hl K r/\∀e∈gn K (aY r.bs) [],TI (bM e (cq r))
def uT.new{a}(h:uT f a)(c:∀p∈e,a p.1){t}(b:qn f e t):a t:=by obtain⟨_,r,d,K,p,rfl⟩:=b;exact(h e c r d).2 K (gI.1 p).1
structure RC(w:W8)(kb base:Nat)(rv:V9)(rs:List PR)(limit:Nat)(TI:Th->Prop)(K0:List (Th×Nat))(n:Nat)(K:List (Th×Nat))(wr:W8):Prop where
 m:bQ wr kb K
 ti:∀p∈K,TI p.1
 len:Z K<=limit
 k:ak [kb] w wr
 n0:1<=n
 n1:n<=Z K+1
 rel:∀r,vi rs limit n K r->vi rs limit 1 K0 r
def abF(w:W8)(kb:Nat)(rs:List PR)(limit:Nat)(TI:Th->Prop)(K:List (Th×Nat))(en:Ending)(w':W8):Prop:=
 ∃r,vi rs limit 1 K r/\en=Vr (Vb r.isSome)/\ak [kb] w w'/\∀K',r=P K'->bQ w' kb K'/\(∀p∈K',TI p.1)/\(Z K')<=limit
def aex(w x f N Q j b M K)(u:bQ w x K)(z:gi w f (U N (Z j) Q) j)(k:uT j M)(n:∀p∈K,M p.1)(g:Z K<=b)(hl:b<=50):Calls prog 60 #[.map (P x),U N (Z j) Q,I J (b:Nat)] w (abF w x j b M K):=by
 have HM:=H u;have HR:=H z;have A:=H k;have r:RC w x f (U N (Z j) Q) j b M K 1 K w:=⟨u,n,g,ak.refl _ _,bD _,O,λ_ h=>h⟩;have a:=H r;have sG:=u.lt;clear u z k n g r;go_in;go_wp2
 go_loopg [7] (b+1-Z K) (λr g wr=>∃(n:Nat)(k:List (Th×Nat)),r=b+1-Z k/\g=I J (n:Nat)/\RC w x f (U N (Z j) Q) j b M K n k wr)
 exact⟨1,K,rfl,rfl,a⟩
 case round=>
  clear a;obtain⟨n,k,_,rfl,a⟩:=hrel;have hk':=a.len;have EM:=a.n1;have HN:=H (aiY wr x f N Q j k n b a.m ((wY.ajk HM a.k).alx HR) (λr z=>(A k a.ti r z).1) a.len hl);have g:=H a;clear a;have D:=H (λ(S:W8)(d:Below (F (X wr)) wr S)=>g.m.block (d.block x g.m.lt));have aoR:=g.m.lt;go_wp2_with fail;refine(HN).mono ?_;rintro en S⟨d,⟨fb,L,rfl,_,t,y,c,_⟩|⟨rfl,L,o,Ct,Oe⟩⟩
  .have hln:=t.len underlying83;have T:=H (aeK S x fb k L (D S d) t O (λp i=>((c p.1).1 (by rw[sL t.nodup i];rfl)).1) O);have i:=H d;have HH:=H y;have s:=H c;have W:=H t;have kW:=d.size;clear d y c t
   cases y:L with
   |nil=>subst y;go_wp2;go_ret;have a:=ag g;exact⟨P k,a.rel _ (.done λt e=>by have:=(s t).2 e;cases this),rfl,a.k.bC i,λK2 e=>by cases e;exact⟨D S i,a.ti,a.len⟩⟩
   |cons p tl=>
    have hz:(Z L:Int)≠0:=(by rw[y];simp;omega);have v:0<Z L:=(by rw[y];simp);clear y;go_wp2_with(go_at_call 100;refine(T).mono ?_;rintro en w2⟨⟨_,rfl⟩,q,E,m,R,_⟩;have V:=H q;have B:=H m;have l:=H R;clear q m R);have R:0<Z E:=by
     cases m:E with
     |nil=>
      exfalso
      cases y:L with
      |nil=>rw[y]at v;simp at v
      |cons q tl=>have:=(l q).2 (by rw[y];exact bz);rw[m]at this;cases this
     |cons q tl=>simp
    have c:∀t,(∃m,(t,m)∈E)↔qn j k t:=λt=>by
     rw[<-ag s t]
     constructor
     .rintro⟨m,u⟩;rw[sL W.nodup ((l _).1 u)];rfl
     intro h;obtain⟨m,u⟩:=tq.1 h;exact⟨m,(l _).2 (rU u)⟩
    go_roundg(b+1-(k++E).length)
    case measure=>rw[br];omega
    case rel=>
     have a:=ag g;refine⟨n+1,k++E,rfl,oN,B,λq t=>?_,by rw[br];omega,(a.k.bC i).trans V,O,by rw[br];omega,λr z=>a.rel r (.jP (λe=>by rw[e]at R;simp at R) (by have o:=B.nodup;rw[fg,pF]at o;exact o.2.1) (λq t=>HH q ((l q).1 t)) c O z)⟩;rcases aS.1 t with t|t
     .exact a.ti q t
     exact(A).new a.ti ((c q.1).1 ⟨q.2,t⟩)
  have i:=H d;clear d;go_wp2;go_ret;have a:=ag g;exact⟨G,a.rel _ (.over L o Ct Oe),rfl,a.k.bC i,λK2 e=>by cases e⟩
section
open Go.RowKit Go.Maps
attribute [local go_sem ↓] pB qa p9 pY
attribute [local go_sem] sT sR
def adT(w d f a c b)(h:Ow w d 191 1 (U a (Z b) c) (Z b) (jm b))(i:(gW f b).length<=1000000000):Calls prog 102 #[Va #[Y f,U a (Z b) c]] w λe l=>e=Vr (Y ⟨(gW f b).toArray⟩)/\Below (F (X w)) w l:=by
 have l:=(aZ (F (X w)) w).alloc L9 (Vc #[Y f,U a (Z b) c] 79);have m:Holds (F (X w)+1) (F (X w)+1) [] (Al (Al w (Vc #[Y f,U a (Z b) c] 79)) (Vc #[Vp G,U G 0 0] 155)):=by have:=Lib.fresh_isBuilder 155 5 (Al w (Vc #[Y f,U a (Z b) c] 79));rw[bL]at this;exact this
 have j:=l.alloc oS (Vc #[Vp G,U G 0 0] 155);have n:=aQ h j (λg e=>(h.lt g e).2);have o:=H (Km (F (X w)+1) (F (X w)+1) [] f a c d b _ m n (oU i) oS);have k:=H j;clear h m j l n;go_in;go_wp2_with(go_at_call 110;refine(o).mono ?_;rintro e m⟨rfl,l,h,-,j⟩);refine(Builder_String_any (F (X w)+1) (F (X w)+1) _ _ l j).mono ?_;rintro e p⟨rfl,g⟩;have n:=H (k.trans ((h.trans g).mono O));clear l h j g;go_wp2;go_ret;exact⟨rfl,n⟩
def iP(t:Th):List (Bool×B8):=t.2.map λx=>(Bf,x)
def ep(t:Th):B8:=⟨(gW t.1 (iP t)).toArray⟩
structure Hq(w:W8)(t:Th)(l:List B8)(tv:V9)(wr:W8):Prop where
 th:TV wr (F (X w)) t
 aC:wr.heap[F (X w)+1]?=P (Vc #[Y t.1,tv] 79)
 row:Ow wr (F (X w)+1+1) 191 1 tv (Z l) (jm (l.map λx=>(Bf,x)))
 k:Below (F (X w)) w wr
def ab3(s:B8):Z s.toList=s.size:=by rw[ByteArray.toList_eq];exact mU s
def anL{w t l d f j k wr b o x}(s:F (X w)+1<F (X wr))(a:Ow b (F (X w)+1+1) 191 1 (U f (Z l+1) k) (Z l+1) (jm (l.map λx=>(Bf,x))++[nX Bf x]))(c:(Al wr o).grownBy b (U d (Z l) j).ownBlock)(h:Hq w t l (U d (Z l) j) wr):Hq w t (l++[x]) (U f (l++[x]).length k) (Sc b (C (F (X w)+1) 1 G) (U f (Z l+1) k))/\b.heap[F (X w)+1]?=P (Vc #[Y t.1,U d (Z l) j] 79):=by
 have m:∀i,i<=F (X w)+1->b.heap[i]?=wr.heap[i]?:=λi p=>by
  rw[c.block i oT (λe=>by have:=(h.row.lt i e.symm).1;omega),aW _ _ _ O]
 have e:=(m _ L9).trans h.aC;refine⟨⟨?_,?_,?_,?_⟩,e⟩
 .show _=_
  rw[cx _ _ _ _ oS];exact(m _ O).trans h.th
 .rw[vg b _ _ _ _ (0,0) _ e,kn _ _ _ _ _ _ e];simp
 .have q:(l++[x]).length=Z l+1:=oS
  have r:jm ((l++[x]).map λx=>(Bf,x))=jm (l.map λx=>(Bf,x))++[nX Bf x]:=by simp[jm]
  rw[q,r];exact gC a (λg n=>cx _ _ _ _ (by have:=(a.lt g n).1;simp;omega))
 have q:Below (F (X w)) w b:=⟨c.os.trans h.k.os,c.tape.trans h.k.tape,c.output.trans h.k.output,bf h.k.size (bf oS c.size),λi p=>(m i O).trans (h.k.block i p)⟩;exact q.setCell (p:=(C (F (X w)+1) 1 G)) oS _
def ab2(w t)(k:fY t)(o:(gW t.1 (iP t)).length<=1000000000):Calls prog 63 #[cP t] w λe x=>e=Vr (Y (ep t))/\Below (F (X w)) w x:=by
 obtain⟨T,N,x,y,z⟩:=info_parts XS;obtain⟨f,i⟩:∃f,f=(bP t).toArray:=⟨_,rfl⟩;have g:=H i;unfold cP;rw[<-i];clear i;have B:=H k;clear k;have l:Ce (Al w (Vc f 88)) (C (F (X w)) 0 G)=P (Y t.1):=by rw[(aj (aG w (Vc f 88)) 0).1,ag g];rfl
 go_in;go_upto_region 2 with fail;generalize i:World.alloc (World.alloc w _) _=K;have k:Hq w t [] (U G 0 0) K:=by
  have n:Below (F (X w)) w (Al (Al w (Vc f 88)) (Vc #[Y t.1,U G 0 0] 79)):=oA.alloc oS _;rw[<-i];refine⟨?_,?_,dm _ _ _ _,n⟩
  .show _=_
   rw[aW _ _ _ oS,<-ag g];exact aG w _
  have:=aG (Al w (Vc f 88)) (Vc #[Y t.1,U G 0 0] 79);rw[bL]at this;exact this
 have n:=H k;have S:F (X w)+1<F (X K):=(aM.1 k.aC).1;clear i l k;go_wp2
 go_loopg [11] 4 (λh i wr=>∃(k:Nat)(l:List B8)(E:V9),k<=4/\h=4-k/\i=I J (k:Nat)/\l=t.2.take k/\Hq w t l E wr)
 exact⟨0,[],_,O,rfl,rfl,rfl,n⟩
 case round=>
  clear n;obtain⟨k,l,E,_,_,rfl,n,i⟩:=hrel;obtain⟨M,h,rfl⟩:=aF i.row;have v:F (X w)+1<F (X wr):=(aM.1 i.aC).1;have d:=H i;have R:Z l<=4:=by rw[n];simp;omega
  have A:=H n;obtain⟨V,_⟩:=aj i.aC 0;obtain⟨W,_⟩:=aj i.aC 1;simp only[bt,aT,bx]at V W
  by_cases s:k<4
  .have r:Ce wr (C (F (X w)) (1+k) G)=P (Y (bj t.2 k)):=by
    rw[(aj i.th (1+k)).1,bt];exact J7 t s
   have Q:(k:Int)<4:=O;clear i n
   by_cases a:k<t.2.length
   .have u:((bj t.2 k).toList==[])=false:=by
     have q:0<(bj t.2 k).size:=Pv B a
     cases c:(bj t.2 k).toList==[] with
     |false=>rfl
     |true=>rw[qV]at c;have j:=ab3 (bj t.2 k);rw[c]at j;simp at j;omega
    have c:=d.row;have q:=H (show t.2.take (k+1)=l++[bj t.2 k] by rw[jr a,ag A];congr 2;unfold bj;rw[dr a];rfl);go_wp2_with(at_builtin;refine ka _ rfl _ _ 77 rfl (F (X w)+1+1) 191 T _ 1 16 underlying77 N x y z rfl oD _ _ _ rfl (c.alloc _) (C (F (X wr)) 0 G) 1 1 [nX Bf (bj t.2 k)] rfl rfl (PW wr _) (PX _ _) oM O oT ?_;intro v5 w5 b m p;clear p;obtain⟨_,_,rfl⟩:=aF b;obtain⟨D,p⟩:=anL v b m d;obtain⟨y1,_⟩:=aj p 1;simp only[bt,aT,bx]at y1;have L:=H D;have H6:=H p;clear b m D p);go_roundg(4-(k+1));exact⟨k+1,l++[bj t.2 k],_,O,rfl,oN,q.symm,L⟩;omega
   have u:((bj t.2 k).toList==[])=true:=by have j:=ab3 (bj t.2 k);rw[Pw (l:=t.2) (i:=k) O]at j;rw[qV];exact zO.1 j
   go_wp2;go_roundg(4-(k+1));exact⟨k+1,l,_,O,rfl,oN,by rw[ag A,j7 O,j7 O],d⟩;omega
  have a:l=t.2:=by rw[n,j7];have u:t.2.length<=4:=B.dc;omega
  have c:=i.row;have j:=H (adT wr (F (X w)+1+1) t.1 M h (iP t) (by unfold iP;rw[bF,<-a];exact c) o);have b:(iP t).length=Z l:=by unfold iP;rw[bF,a]
  rw[b]at j;have r:=H i.k;clear i n c a b;go_wp2_with(go_at_call 102;refine(j).mono ?_;rintro e c⟨rfl,b⟩;have a:=H b;clear b);go_ret;exact⟨rfl,r.trans (a.mono r.size)⟩
end
open Go.Sort
def aaA(a:List B8):(a.map Y)=(a.map λs=>s.data.toList).map encStr:=by
 rw[km];refine uh λs _=>?_
 simp[encStr]
def xN(zs:List B8):List (List UInt8):=(zs.map λs=>s.data.toList).mergeSort λx y=>decide (x<=y)
def acO(w:W8)(base:Nat)(zs:List B8)(v:V9)(e:Ending)(w':W8):Prop:=
 e=Vr (Vt #[])/\Ow w' base 9 1 v (Z zs) ((xN zs).map encStr)/\w.grownBy w' v.ownBlock
def amp(w f a c d)(h:Ow w f 9 1 (U a (Z d) c) (Z d) (d.map Y))(x:Z d<=1000000):Calls prog 64 #[U a (Z d) c] w (acO w f d (U a (Z d) c)):=by
 rcases h.2 with⟨_,l⟩|⟨g,_,_,r,i,j,m,o,p,k⟩
 .have e:=zO.1 l;subst e;refine(slices_Sort_string_none a c w).mono ?_;rintro e u⟨rfl,rfl⟩;refine⟨rfl,by rw[show xN []=[] from by simp[xN]];exact h,⟨rfl,rfl,rfl,bD _,λ_ _ _=>rfl⟩⟩
 injection r with b v s
 subst b s;have b:(d.map λs=>s.data.toList).length=Z d:=oS
 rw[aaA]at k;have q:Go.Sort.Holds encStr w g 0 (d.map λs=>s.data.toList).toArray:=holds_of_block j (by rw[b];simpa using k);have:=slices_Sort_string g 0 c (d.map λs=>s.data.toList) w q (aM.1 j).1 (by rw[b];omega);rw[b]at this;refine this.mono ?_;rintro e u⟨rfl,n,t,rfl⟩;refine⟨rfl,?_,?_⟩
 .have:=ownsRow_sorted (w:=w) (n:=n) (os:=t) (ss:=d.map λs=>s.data.toList) (ts:=xN d) (by simp[xN]) i j (by rw[b];exact m) o p;rw[b]at this;exact this
 exact grownBy_sorted _
def mx(S:B8->Nat)(s:Nat)(r:PR):Bool:=S r.R.pd==s
structure yx(w:W8)(base:Nat)(rv:V9)(rs:List PR)(tb n:Nat)(ps:P9)(S:B8->Nat)(l:List PR)(v:V9)(wr:W8):Prop where
 row:Ow wr (F (X w)) 123 3 v (Z l) (l.flatMap PR.cells)
 ai:Below (F (X w)) w wr
variable {a:P9}{b c:List PR}{d e f:Nat}{g h:V9}{i j:W8}
def yx.alloc{S}(w:yx i d g c e f a S b h j)(o):yx i d g c e f a S b h (Al j o):=⟨w.row.alloc o,w.ai.alloc w.ai.size _⟩
def yx.append{S m w}(wr:yx i d g b e f a S c h j){r}(v:Ow w (F (X i)) 123 3 m (Z c+1) (c.flatMap PR.cells++r.cells))(n:j.grownBy w h.ownBlock):yx i d g b e f a S (c++[r]) m w:=by
 have p:=wr.ai.size;have o:∀k,k<F (X i)->w.heap[k]?=j.heap[k]?:=λk l=>n.block k O (λl=>by have:=(wr.row.lt k l.symm).1;omega)
 refine⟨?_,wr.ai.trans ⟨n.os,n.tape,n.output,n.size,o⟩⟩;simpa using v
def acn(w:W8)(base:Nat)(rs:List PR)(S:B8->Nat)(s:Nat)(en:Ending)(w':W8):Prop:=
 ∃a c,en=Vr (U a (rs.filter (mx S s)).length c)/\Below (F (X w)) w w'/\gi w' base (U a (rs.filter (mx S s)).length c) (rs.filter (mx S s))
def ajl(w c M N b t n q S s)(h:gi w c (U M (Z b) N) b)(hb:c<=F (X w))(v:dt prog 9 w t n (bq q S))(hl:Z b<=1000)(i:∀r∈b,r.R.pd.size<=800/\(bE q r.R.pd).isSome=Bt):Calls prog 61 #[U M (Z b) N,.map (P t),I J (s:Nat)] w (acn w c b S s):=by
 obtain⟨i0,hi,W,dx,cB⟩:=info_parts XQ;have a:=H h;have HT:=H v;have R:=H i;have k:yx w c (U M (Z b) N) b t n q S [] (U G 0 0) w:=⟨dm _ _ _ _,aZ _ _⟩;have z:=H k;have V:=v.lt;clear h v i k;have vE:=Ey;go_in;go_wp2
 go_loopg [7,12] (Z b) (λh v i wr=>∃k:Nat,k<=Z b/\h=Z b-k/\i=I J k/\yx w c (U M (Z b) N) b t n q S ((b.take k).filter (mx S s)) v wr)
 exact⟨0,aI _,rfl,rfl,z⟩
 case round=>
  clear z;obtain⟨k,_,_,rfl,v⟩:=hrel;obtain⟨_,_,rfl⟩:=aF v.row
  by_cases z:k<Z b
  .obtain⟨r,h⟩:∃r,r=b[k]:=⟨_,rfl⟩;have e:r∈b:=(by rw[h];exact aN z);have i:=a.aK r e;obtain⟨l,p,x⟩:=aF i.hd;obtain⟨j,o,u⟩:=aF i.bo.row;obtain⟨g,_,hv,_,y,_,_,Q⟩:=gu JK a.row k z;injection hv with f h2 d
   subst f d;have f:=v.ai;have e0:Ce wr (C g (k*3) G)=P (Y r.R.pd):=(by rw[h];exact(f.cell (p:=(C g (k*3) G)) y).trans (Q 0 O));have e1:Ce wr (C g (k*3+1) G)=P (U l (Z r.R.ts) p):=(by rw[<-x,h];exact(f.cell (p:=(C g (k*3+1) G)) y).trans (Q 1 O));have e2:Ce wr (C g (k*3+2) G)=P (U j (Z r.bs) o):=(by rw[<-u,h];exact(f.cell (p:=(C g (k*3+2) G)) y).trans (Q 2 O));have kf:(k:Int)<Z b:=O;have d:=v.alloc (Vc #[Y r.R.pd,U l (Z r.R.ts) p,U j (Z r.bs) o] 123);have E:=HT.block (d.ai.block t V);obtain⟨_,K⟩:=R r e;have D:r.R.pd.size<=maxLen:=oM;obtain⟨m,hm⟩:=tq.1 K;have hu:(bq q S r.R.pd).getD (Va #[Y ⟨#[]⟩,I J 0,I J 0])=Va #[Y r.R.pd,I J (S r.R.pd),I J m]:=(by unfold bq;rw[hm];rfl);have kK:((b.take k).filter (mx S s)).length<=1000:=bf (qU _ _) oT;have L:r=⟨r.R,U l (Z r.R.ts) p,r.bs,U j (Z r.bs) o⟩:=(by rw[<-x,<-u]);have T:=H L;have B:=H (QU (f:=mx S s) z);have A:=H h;have Fa:=v.ai.size;clear Q v i h e f h2 K hm x u L
   cases x:mx S s r with
   |true=>
    have Q:(S r.R.pd:Int)=s:=(by have:S r.R.pd=s:=(by simpa[mx]using x);omega);have L:=H x;have u:=(d.alloc (Vc #[Y r.R.pd,U l (Z r.R.ts) p,U j (Z r.bs) o] 123)).row;have f:=H (d.alloc (Vc #[Y r.R.pd,U l (Z r.R.ts) p,U j (Z r.bs) o] 123));clear d x
    go_wp2_with(first
     | (at_lookup;refine Vn _ rfl _ _ 73 rfl 9 185 underlying9 underlying73 (zeroValue185 _) t n (bq q S) rfl E r.R.pd rfl D _ hu ?_)
     | (at_builtin;refine ka _ rfl _ _ 75 rfl (F (X w)) 123 i0 _ 3 64 underlying75 hi W dx cB rfl oD _ _ _ rfl u (C (F (X wr)+1) 0 G) 1 1 (PR.mk r.R (U l (Z r.R.ts) p) r.bs (U j (Z r.bs) o)).cells rfl rfl (ZM wr _ (PR.mk r.R (U l (Z r.R.ts) p) r.bs (U j (Z r.bs) o))) (ZN _ _ _ _ _ _ _ _) oM O oT ?_;intro v5 w5 e h K;clear K;obtain⟨_,_,rfl⟩:=aF e;have K:=H (f.append e h);clear e h))
    go_roundg(Z b-(k+1))
    case measure=>omega
    case rel=>refine⟨k+1,O,rfl,oN,?_⟩;rw[ag B,<-ag A,ag L,aD rfl,ag T];exact K
   |false=>
    have Q:¬((S r.R.pd:Int)=s):=(by have:S r.R.pd≠s:=(by simpa[mx]using x);omega);have L:=H x;have f:=H d;clear d x;go_wp2_with(at_lookup;refine Vn _ rfl _ _ 73 rfl 9 185 underlying9 underlying73 (zeroValue185 _) t n (bq q S) rfl E r.R.pd rfl D _ hu ?_);go_roundg(Z b-(k+1))
    case measure=>omega
    case rel=>refine⟨k+1,O,rfl,oN,?_⟩;rw[ag B,<-ag A,ag L,aB oD,kO];exact f
  have e:(b.take k).filter (mx S s)=b.filter (mx S s):=by rw[j7 O]
  rw[e]at v⊢;have f:=H v;clear v;go_wp2;go_ret;have d:=ag f
  exact⟨_,_,rfl,d.ai,⟨aX d.row hb,λr v=>by
   have i:=a.aK r (gI.1 v).1
   exact⟨aQ i.hd d.ai (λg e=>(i.hd.lt g e).2),i.bo.ai d.ai,i.eq⟩⟩⟩
section
open Go.RowKit Go.Maps
attribute [local go_sem ↓] tW tX wj tF pB qa p9 pY
attribute [local go_sem] ux xJ sT sR
def rN(A:du)(p:Th×Nat):Bool:=(dZ [] A p.1).isSome
variable{a:List (Th×Nat)}
def Zf(h:(a.map (·.1)).Nodup):a.Nodup:=by
 induction a with
 |nil=>simp
 |cons x r b=>rw[ir,wN]at h;exact wN.2 ⟨λL=>h.1 (fW L),b h.2⟩
def aiO{i A}{f:Th->Prop}(k:∀p,p∈i↔p∈a/\¬f p.1/\rN A p=Bt){t n}(l:(t,n)∈a)(j:(a.map (·.1)).Nodup):(rN A (t,n)=Bt->∀p,p∈i++[(t,n)]↔p∈a/\¬(f p.1/\¬p.1=t)/\rN A p=Bt)/\(rN A (t,n)=Bf->∀p,p∈i↔p∈a/\¬(f p.1/\¬p.1=t)/\rN A p=Bt):=by
 have d:∀p∈a,p.1=t->p=(t,n):=λp c e=>by
  have K:=sL j c;have c:=sL j l;rw[e,c]at K;have b:=cI K;exact zP e b.symm
 constructor
 .intro g p;rw[aS,k]
  constructor
  .rintro(⟨K,c,b⟩|K)
   .exact⟨K,λh=>c h.1,b⟩
   rw[bu.1 K];exact⟨l,λh=>h.2 rfl,g⟩
  rintro⟨K,c,b⟩
  by_cases e:p.1=t
  .right;rw[d p K e];exact bu.2 rfl
  left;exact⟨K,λh=>c ⟨h,e⟩,b⟩
 intro g p;rw[k]
 constructor
 .rintro⟨K,c,b⟩;exact⟨K,λh=>c h.1,b⟩
 rintro⟨K,c,b⟩;refine⟨K,λh=>c ⟨h,λe=>?_⟩,b⟩;rw[d p K e,g]at b;cases b
structure Tj(w:W8)(kb rb:Nat)(A:du)(aa:O8)(ac:Nat)(K:List (Th×Nat))(Lf:Th->Prop)(ts:List (Th×Nat))(v:V9)(cA:Nat)(wr:W8):Prop where
 rg:n9 wr kb rb K Lf cA
 aC:wr.heap[F (X w)]?=P (Vc #[Y A.p,U aa (Z A.ts) ac] 79)
 mem:∀p,p∈ts↔p∈K/\¬Lf p.1/\rN A p=Bt
 nd:ts.Nodup
 len:Z ts+cA<=Z K
 row:Ow wr (F (X w)+1+1) 9 1 v (Z ts) ((ts.map λp=>ep p.1).map Y)
 k:Below (F (X w)) w wr
def ach(w:W8)(A:du)(K:List (Th×Nat))(e:Ending)(w':W8):Prop:=
 ∃(zs:List B8)(a:O8)(c:Nat),e=Vr (U a (Z zs) c)/\zs.Perm ((K.filter (rN A)).map λp=>ep p.1)/\Ow w' (F (X w)) 9 1 (U a (Z zs) c) (Z zs) ((xN zs).map encStr)/\Below (F (X w)) w w'
def aix(w f o A l m K)(hm:bQ w f K)(z:Ow w o 191 1 (U l (Z A.ts) m) (Z A.ts) (A.ts.map kx))(h4:Z A.ts<=4)(hK:Z K<=1000)(q:∀p∈K,(gW p.1.1 (iP p.1)).length<=1000000000):Calls prog 39 #[.map (P f),Va #[Y A.p,U l (Z A.ts) m]] w (ach w A K):=by
 obtain⟨i0,d,gB,dx,cB⟩:=info_parts apu;have HR:=H z;have Ll:=H q;have sG:=hm.lt;have HM:=H hm;clear z q hm;go_in;go_upto_region 2 with fail;generalize v:World.alloc w _=q;have s:Below (F (X w)) w q:=by rw[<-v];exact(aZ (F (X w)) w).alloc L9 _
 have R:q.heap[F (X w)]?=P (Vc #[Y A.p,U l (Z A.ts) m] 79):=by rw[<-v];exact aG w _
 have L:F (X q)=F (X w)+1:=by rw[<-v];simp
 have y:bQ q f K:=(ag HM).block (s.block _ sG);have a:=H s;have SO:=H R;have c:=H L;clear v s R L;go_wp2_with(first|(at_range;refine Kr _ rfl _ 83 rfl underlying83 f K rfl y ?_;intro w1 R v s)|go_in)
 try go_frame
 have e:Tj w f (F (X q)) A l m K (λ_=>True) [] (U G 0 0) (Z K) w1:=by have L:=ag c;refine⟨R,(v.block _ O oS).trans (ag SO),λp=>⟨λh=>absurd h BA,λh=>absurd trivial h.2.1⟩,oS,oS,dm _ _ _ _,⟨v.os.trans (ag a).os,v.tape.trans (ag a).tape,v.output.trans (ag a).output,bf (ag a).size v.size,λj h=>(v.block j O oS).trans ((ag a).block j h)⟩⟩
 have h:=H e;clear R v s y e
 go_loopg [5] (Z K) (λe v wr=>∃(Lf:Th->Prop)(j:List (Th×Nat)),Tj w f (F (X q)) A l m K Lf j v e wr)
 exact⟨_,_,ag h⟩
 case round=>
  clear h;obtain⟨Lf,j,R⟩:=hrel;obtain⟨a1,c1,rfl⟩:=aF R.row;have y:=R.rg;have s:=R.rg.lt;have Fa:F (X w)+1<F (X wr):=by have:=ag c;omega
  clear s;have hlen:=R.len;have s:=H R;clear R;go_wp2_with(first|(at_next;refine Kq _ rfl _ rfl f (F (X q)) K Lf gk rfl y ?_ ?_)|go_in)
  .intro e;have x:=H e;have R:=ag s;have n:((j.map λp=>ep p.1)).length=Z j:=oS;have h:=R.row;rw[<-n]at h;have D:=H (amp wr (F (X w)+1+1) a1 c1 (j.map λp=>ep p.1) h (by rw[n];omega));rw[n]at D;clear e y R h;go_wp2_with(go_at_call 64;refine(ag D).mono ?_;rintro e h⟨rfl,i,v⟩;have r:=H i;have k:=H v;clear i v);go_ret;have R:=ag s;have b:=ag k;refine⟨j.map λp=>ep p.1,a1,c1,by rw[n];rfl,List.Perm.map _ ((GY R.nd ((Zf R.rg.map.nodup).filter _)).2 λp=>?_),?_,?_⟩
   .rw[R.mem,gI];exact⟨λ⟨E,_,i⟩=>⟨E,i⟩,λ⟨E,i⟩=>⟨E,ag x p.1.1 p.1.2 p.2 E,i⟩⟩
   .rw[n];have:=ag r;rw[n]at this;exact aX this O
   exact⟨b.os.trans R.k.os,b.tape.trans R.k.tape,b.output.trans R.k.output,bf R.k.size b.size,λi d=>(b.block i O (λe=>by have:=(R.row.lt i e.symm).1;omega)).trans (R.k.block i d)⟩
  intro tp F4 n h b x r k sH v xv IC;generalize((tp,F4):Th)=t at*;have R:=ag s;have L:=ag c;have u:Below (F (X w)) w h:=⟨v.os.trans R.k.os,v.tape.trans R.k.tape,v.output.trans R.k.output,bf R.k.size v.size,λi d=>(v.block i O oT).trans (R.k.block i d)⟩;have S:h.heap[F (X w)]?=P (Vc #[Y A.p,U l (Z A.ts) m] 79):=(v.block _ O oT).trans R.aC;have r2:Ow h (F (X w)+1+1) 9 1 (U a1 (Z j) c1) (Z j) ((j.map λp=>ep p.1).map Y):=gC R.row (λg e=>v.block g (R.row.lt g e).2 (λe2=>by have:=(R.row.lt g e).1;injection e2 with e2;omega));have hT:fY t:=R.rg.map.ok _ x;have qH:=v.size;have M:Below (F (X h)) h (Al h (Vc (bP t).toArray 88)):=B9.alloc L9 _;have B:=u.trans (M.mono u.size);have HM:=H (JH (Al h (Vc (bP t).toArray 88)) o [] A l m t (gC (ag HR) (λg e=>B.block g ((ag HR).lt g e).2)) h4 (A.ts.map (·.2)) oT (iY.nil _) (λt p _=>fW p));have t3:=(TV.new h t).load;obtain⟨q0,-⟩:=aj ((M.block _ O).trans S) 0;obtain⟨q1,-⟩:=aj ((M.block _ O).trans S) 1;simp only[bt,aT,bx]at q0 q1;have HT:=H hT;have p:=H k;have Q:=H u;have F9:=H S;have V:=H r2;have Dy:=H x;have Sl:=H r;have pn:=ag Ll _ x;have N:(t,n)∉j:=λhm=>((R.mem _).1 hm).2.1 r
  have HNT:=H N;have W:=H (aiO R.mem x R.rg.map.nodup);have T:=H R.nd;clear xv v y k u S r2 hT x r R M B N L;obtain⟨R,N⟩:∃R,R=dZ [] A t:=⟨_,rfl⟩;rw[<-N]at HM;have x:rN A (t,n)=R.isSome:=by unfold rN;rw[N]
  have k:=H x;clear N x;go_upto_region 6 with(go_at_call 62;refine(ag HM).mono ?_;rintro en w4⟨r,rfl⟩;have N:=H r;clear r);generalize B:World.alloc w4 _=r;have y:Below (F (X h)) h r:=by rw[<-B];have x:=ag N;exact(oA.trans (x.mono oS)).alloc (by have:=x.size;simp at this;omega) _
  have t5:TV r (F (X h)) t:=by rw[<-B];exact((TV.new h t).ai (ag N)).alloc _
  have l5:=t5.load;have yc:=H y;have apl:=y.size;have Ya:=(ag Q).trans (y.mono (ag Q).size);have r5:=aQ (ag V) y (λg e=>((ag V).lt g e).2);have a5:r.heap[F (X w)]?=P (Vc #[Y A.p,U l (Z A.ts) m] 79):=(y.block _ O).trans (ag F9);have g5:n9 r f (F (X q)) K (λx=>Lf x/\¬x=t) b:=(ag p).kT (y.block _ (ag p).map.lt) (y.block _ (ag p).lt);have S:=H Ya;have u:=H r5;have M:=H a5;have v:=H g5;have HTE:=H (ab2 r t (ag HT) pn);clear B y t5 Ya r5 a5 g5 t3 q0 q1 IC
  cases z:R with
  |none=>have y:rN A (t,n)=false:=(by rw[ag k,z];rfl);have D:=H ((ag W).2 y);clear y z;go_wp2;go_roundg b;exact⟨_,j,ag v,ag M,ag D,ag T,O,ag u,ag S⟩;omega
  |some e2=>
   have y:rN A (t,n)=true:=(by rw[ag k,z];rfl);have D:=H ((ag W).1 y);clear y z;go_wp2_with fail;refine(ag HTE).mono ?_;rintro en w6⟨rfl,y⟩;have hw6:=y.size;have r6:=aQ (ag u) y (λg e=>((ag u).lt g e).2);have mM:Z j<=1000:=O;have HB6:=H y;clear y;go_wp2_with(at_builtin;refine ka _ rfl _ _ 33 rfl (F (X w)+1+1) 9 i0 _ 1 16 underlying33 d gB dx cB rfl oD _ _ _ rfl (r6.alloc _) (C (F (X w6)) 0 G) 1 1 [Y (ep t)] rfl rfl (aaz w6 _) (QN _) oM O oT ?_;intro v7 w7 g y z;clear z;obtain⟨_,_,rfl⟩:=aF g;have HO7:=H g;have HG7:=H y;clear g y);go_roundg b
   case measure=>omega
   case rel=>
    have g:=ag HG7;have z:=ag HB6;have L:=ag c;have B:∀i,i<F (X r)->i<F (X w)+1+1->w7.heap[i]?=r.heap[i]?:=λi d h2=>by
     rw[g.block i oT (λe=>by have:=(r6.lt i e.symm).1;omega),aW _ _ _ O,z.block i d]
    have IK:f<F (X w)+1+1:=O;refine⟨_,j++[(t,n)],(ag v).kT (B _ (ag v).map.lt IK) (B _ (ag v).lt O),(B _ O O).trans (ag M),ag D,pF.2 ⟨ag T,oS,λx hx y hy e=>by rw[bu.1 hy]at e;rw[e]at hx;exact ag HNT hx⟩,by rw[br];simp;omega,?_,?_⟩
    .have y:=ag HO7;have x:(j++[(t,n)]).length=Z j+1:=oS;rw[x,fg,fg];exact y
    have x:=ag S;exact⟨g.os.trans (z.os.trans x.os),g.tape.trans (z.tape.trans x.tape),g.output.trans (z.output.trans x.output),by have E:=g.size;have h2:=x.size;simp at E;omega,λi d=>(B i O O).trans (x.block i d)⟩
end
def aeF(y:B8->B8->B8->B8->B8->B8->Prop)(w g h i j k l m n o p v x)(q d r f:Nat)(M:y g h i j k v)(N:y l m n o p x)(z:∀s u b c A t,y s u b c A t->∀W,Calls prog 63 #[Va #[Y s,Y u,Y b,Y c,Y A]] W λe a=>e=Vr (Y t)/\Below (F (X W)) W a):Calls prog 106 #[Va #[Y g,Y h,Y i,Y j,Y k,I J q,I J d],Va #[Y l,Y m,Y n,Y o,Y p,I J r,I J f]] w λe a=>e=Vr (I J (tP (mZ q r) (mZ d f) (mY v x)))/\Below (F (X w)) w a:=by
 have L:=H z;have B:=H Uk;have D:=H (λW=>Ul v x W);have K:=H (λ(W:W8)(a b c:Int)=>ajv (Al W (Vc #[I J a,I J b,I J c] 3)) (F (X W)) a b c (aG W _));clear z;generalize mY v x=Q at*;go_in;go_upto_region 1 with fail;generalize b:World.alloc (World.alloc w _) _=c;have e:Below (F (X w)) w c:=by rw[<-b];exact((aZ (F (X w)) w).alloc L9 _).alloc oS _
 have s:c.heap[F (X w)]?=P (Vc #[Y g,Y h,Y i,Y j,Y k,I J q,I J d] 148):=by rw[<-b,aW _ _ _ oS];exact aG w _
 have u:c.heap[F (X w)+1]?=P (Vc #[Y l,Y m,Y n,Y o,Y p,I J r,I J f] 148):=by rw[<-b];have:=aG (Al w (Vc #[Y g,Y h,Y i,Y j,Y k,I J q,I J d] 148)) (Vc #[Y l,Y m,Y n,Y o,Y p,I J r,I J f] 148);rw[bL]at this;exact this
 clear b;have t:=H e
 have E:=H (λ(W:W8)(z:Below (F (X c)) c W)=>(show Ce W (C (F (X w)) 0 G)=P (Y g)/\Ce W (C (F (X w)) 1 G)=P (Y h)/\Ce W (C (F (X w)) 2 G)=P (Y i)/\Ce W (C (F (X w)) 3 G)=P (Y j)/\Ce W (C (F (X w)) 4 G)=P (Y k)/\Ce W (C (F (X w)) 5 G)=P (I J q)/\Ce W (C (F (X w)) 6 G)=P (I J d)/\Ce W (C (F (X w)+1) 0 G)=P (Y l)/\Ce W (C (F (X w)+1) 1 G)=P (Y m)/\Ce W (C (F (X w)+1) 2 G)=P (Y n)/\Ce W (C (F (X w)+1) 3 G)=P (Y o)/\Ce W (C (F (X w)+1) 4 G)=P (Y p)/\Ce W (C (F (X w)+1) 5 G)=P (I J r)/\Ce W (C (F (X w)+1) 6 G)=P (I J f) from by
  have b:=(z.block _ (aM.1 s).1).trans s;have a:=(z.block _ (aM.1 u).1).trans u
  exact⟨(aj b 0).1,(aj b 1).1,(aj b 2).1,(aj b 3).1,(aj b 4).1,(aj b 5).1,(aj b 6).1,(aj a 0).1,(aj a 1).1,(aj a 2).1,(aj a 3).1,(aj a 4).1,(aj a 5).1,(aj a 6).1⟩))
 clear s u e;have s:Below (F (X c)) c c.drew:=B9.drew
 go_region_held3 (λW=>Ce W (C (F (X w)) 0 G)=P (Y g)/\Ce W (C (F (X w)) 1 G)=P (Y h)/\Ce W (C (F (X w)) 2 G)=P (Y i)/\Ce W (C (F (X w)) 3 G)=P (Y j)/\Ce W (C (F (X w)) 4 G)=P (Y k)/\Ce W (C (F (X w)) 5 G)=P (I J q)/\Ce W (C (F (X w)) 6 G)=P (I J d)/\Ce W (C (F (X w)+1) 0 G)=P (Y l)/\Ce W (C (F (X w)+1) 1 G)=P (Y m)/\Ce W (C (F (X w)+1) 2 G)=P (Y n)/\Ce W (C (F (X w)+1) 3 G)=P (Y o)/\Ce W (C (F (X w)+1) 4 G)=P (Y p)/\Ce W (C (F (X w)+1) 5 G)=P (I J r)/\Ce W (C (F (X w)+1) 6 G)=P (I J f)) ((refine E _ ?_;first|exact s|exact a|exact W|exact W.alloc W.size _)) ((first
  | (go_at_call 161;refine(B _ _ _).mono ?_;rintro u A⟨rfl,b⟩;subst b)
  | (go_at_call 63;refine(L _ _ _ _ _ _ (by assumption) _).mono ?_;rintro u z⟨rfl,e⟩;first|(have W:Below (F (X c)) c z:=a.trans (e.mono a.size))|(have a:Below (F (X c)) c z:=jB e);clear e)
  | (go_at_call 162;refine(D _).mono ?_;rintro u A⟨rfl,b⟩;subst b)
  | (go_at_call 160;refine(K _ _ _ _).mono ?_;rintro u A⟨rfl,b⟩;subst b)))
 all_goals
  go_wp2;go_ret;exact⟨rfl,t.trans ((W.alloc W.size _).mono t.size)⟩
def Ie(p q:Pl):Int:=tP (mZ p.s q.s) (mZ p.h q.h) (mY (ep p.t) (ep q.t))
def aeH(w p q)(n:fY p.t)(o:fY q.t)(r:(gW p.t.1 (iP p.t)).length<=1000000000)(s:(gW q.t.1 (iP q.t)).length<=1000000000):Calls prog 106 #[tQ p,tQ q] w λe a=>e=Vr (I J (Ie p q))/\Below (F (X w)) w a:=
 aeF (λe a b c d t=>∃y:Th,fY y/\(gW y.1 (iP y)).length<=1000000000/\y.p=e/\bj y.ts 0=a/\bj y.ts 1=b/\bj y.ts 2=c/\bj y.ts 3=d/\ep y=t) w _ _ _ _ _ _ _ _ _ _ _ _ p.s p.h q.s q.h ⟨p.t,n,r,rfl,rfl,rfl,rfl,rfl,rfl⟩ ⟨q.t,o,s,rfl,rfl,rfl,rfl,rfl,rfl⟩ (λe a b c d t ⟨y,l,m,f,g,h,i,j,k⟩ W=>by subst f g h i j k;exact ab2 W y l m)
def aga{w a}(h:Below (F (X w)) w a)(j:w.drawn<=a.drawn):∃q f,a=Sort.grow (w.drewN q) f:=by
 refine⟨a.drawn-w.drawn,a.heap.extract (F (X w)) (F (X a)),?_⟩;obtain⟨i,b,c,g,d⟩:=h
 cases a with
 |mk e tape q f h=>
  simp only at i b c g d j;subst i b c;unfold Sort.grow World.drewN;simp only
  congr 1
  .apply DE;intro i;rw[SR]
   split
   .rename_i c;exact d i c
   rename_i c;rw[Array.getElem?_extract]
   split
   .congr 1;omega
   rw[zJ O]
  omega
section
open Go.RowKit Go.Maps Go.Sort
def Vd{α:Type}[Inhabited α](enc:α->V8)(hk:∀x,(enc x).length=7):∀(a:List α)(t:Nat),t<Z a*7->(a.flatMap enc)[t]?=P ((enc (a.toArray[t/7]!))[t%7]!)
 | [],t,h=>by simp at h
 |x::r,t,h=>by
  rw[lY]
  by_cases a:t<7
  .rw[wL (by rw[hk];exact a),Nat.div_eq_of_lt a,Nat.mod_eq_of_lt a];have:t<(enc x).length:=by rw[hk];exact a
   simp[this]
  have d:=Vd enc hk r (t-7) (by simp at h;omega);rw[ug (by rw[hk];omega),hk,d];have x:t/7=(t-7)/7+1:=O
  have b:t%7=(t-7)%7:=O
  have c:(t-7)/7<Z r:=by simp at h;omega
  rw[x,b];simp[c]
def Ni{α:Type}[Inhabited α](enc:α->V8)(hk:∀x,(enc x).length=7)(xs:List α):Sort.flatK enc 7 xs.toArray=(xs.flatMap enc).toArray:=by
 have d:∀l:List α,(l.flatMap enc).length=Z l*7:=by
  intro l;induction l with
  |nil=>rfl
  |cons x r t=>rw[lY,br,t,hk,ff];omega
 refine GF (by simp[d]) λt r b=>?_
 have b:t<Z xs*7:=by simpa using r
 have c:=Vd enc hk xs t b;have a:=Sort.get_flatK enc 7 xs.toArray t (oU b);rw[Ha _ t r]at a;rw[a];have r:(xs.flatMap enc)[t]?=P (xs.flatMap enc).toArray[t]:=oS
 rw[c]at r;exact cI r
section
variable{w:W8} {g n:Nat} {o:Array Obj} {f:Array V9} {e:TypeId} {α:Type} [Inhabited α]
def agW{a:α->V8}(k:∀x,(a x).length=7){b}(d:w.heap[g]?=P (Vc f e))(i:f.toList.take (Z b*7)=b.flatMap a):Sort.HoldsK a 7 w g 0 b.toArray:=by
 unfold Sort.HoldsK;rw[Ni a k];intro j h;have x:j<(b.flatMap a).length:=by simpa using h
 refine⟨?_,by simp[World.frozen?,d]⟩;have l:(b.flatMap a).length<=Z b*7:=by rw[<-i];simp;omega
 have c:(f.toList.take (Z b*7))[j]?=(b.flatMap a)[j]?:=by rw[i]
 rw[GO O]at c;simp only[World.cell?,d,lZ];simp only[G4,qi,pG];rw[<-DF,c,dr x];rw[Ha _ j h];rfl
def agu(d)(a:w.heap[g]?=P (Vc f e)):(Sort.grow (Sort.putRow id (Sort.ahead w n) g 0 d) o).heap[g]?=P (Vc (Sort.putCells id 0 d f) e):=by have b:g<F (X w):=(aM.1 a).1;rw[Sort.heap_grow_old _ _ (oU b)];simp[Sort.putRow,Sort.mapBlock,Sort.ahead,zK,a,Sort.onCells]
def ag8(d):w.grownBy (Sort.grow (Sort.putRow id (Sort.ahead w n) g 0 d) o) (P g):=by
 refine⟨rfl,rfl,rfl,oS,λk b a=>?_⟩;rw[Sort.heap_grow_old _ _ (oU b)];have:g≠k:=λe=>a (by rw[e])
 simp[Sort.putRow,Sort.mapBlock,Sort.ahead,zK,this]
def an4(a)(h:Z a<=f.size):(Sort.putCells id 0 a.toArray f).toList.take (Z a)=a:=by
 apply GN;intro j
 by_cases b:j<Z a
 .rw[GO b,DF];simp[Sort.putCells,b,show j<f.size by omega]
 rw[Tb O,od O]
def ajO{c b m}{a:α->V8}(j:∀x,(a x).length=7){h}(p:Z h=m)(d:c<=g)(l:w.heap[g]?=P (Vc f e))(q:m<=b) (k:b<=maxLen) (i:f.size=b*7):(sortWorldK a 7 w g 0 n h.toArray o).ownsRow c e 7 (U (P (C g 0 G)) m b) (Z h) (h.flatMap a):=by
 have x:(h.flatMap a).length=Z h*7:=by have:=gQ Array.size (Ni a j h);simpa using this.symm
 unfold sortWorldK Sort.putRowK;rw[Ni a j];exact⟨x,.inr ⟨g,b,_,by rw[p],d,agu _ l,O,k,by simp[Sort.putCells,i],by rw[<-x];exact an4 _ (by rw[x,i];omega)⟩⟩
end
def jN(p q:Pl):Bool:=decide (p.s<q.s)||(decide (p.s=q.s)&&(decide (p.h<q.h)||(decide (p.h=q.h)&&fc (ep p.t) (ep q.t))))
def Az{p q}:jN p q=Bt↔p.s<q.s\/(p.s=q.s/\(p.h<q.h\/(p.h=q.h/\fc (ep p.t) (ep q.t)=Bt))):=by unfold jN;simp
def aii(p q):decide (Ie p q<0)=jN p q:=by
 rw[oX,qW,Az];unfold Ie tP mZ;have i:mY (ep p.t) (ep q.t)<0↔fc (ep p.t) (ep q.t)=true:=by have:=rV (ep p.t) (ep q.t);unfold ltOf at this;rw[<-this];simp
 by_cases a:p.s<q.s
 .simp[a]
 by_cases c:q.s<p.s
 .simp only[aB a,aD c];simp;omega
 have e:p.s=q.s:=O
 simp only[aB a,aB c]
 by_cases b:p.h<q.h
 .simp[b,e]
 by_cases d:q.h<p.h
 .simp only[aB b,aD d];simp;omega
 have h:p.h=q.h:=O
 simp only[aB b,aB d];simp[e,h,i]
def OO(p):jN p p=false:=by
 rw[<-DH,Az];rintro(h|⟨_,h|⟨_,h⟩⟩)
 .omega
 .omega
 rw[Ay]at h;cases h
def I9{p q r}(h:jN p q=Bt)(k:jN q r=Bt):jN p r=true:=by
 rw[Az]at h k⊢;rcases h with h|⟨h,c|⟨c,a⟩⟩<;>rcases k with k|⟨k,d|⟨d,b⟩⟩
 .exact .inl O
 .exact .inl O
 .exact .inl O
 .exact .inl O
 .exact .inr ⟨O,.inl O⟩
 .exact .inr ⟨O,.inl O⟩
 .exact .inl O
 .exact .inr ⟨O,.inl O⟩
 exact .inr ⟨O,.inr ⟨O,CI a b⟩⟩
def OP{p q}(h:jN p q=Bf)(k:jN q p=Bf):p.s=q.s/\p.h=q.h/\ep p.t=ep q.t:=by
 rw[<-DH,Az]at h k;have b:p.s=q.s:=by
  rcases BF p.s q.s with a|a|a
  .exact absurd (.inl a) h
  .exact a
  exact absurd (.inl a) k
 have c:p.h=q.h:=by
  rcases BF p.h q.h with a|a|a
  .exact absurd (.inr ⟨b,.inl a⟩) h
  .exact a
  exact absurd (.inr ⟨b.symm,.inl a⟩) k
 refine⟨b,c,Fo ?_ ?_⟩
 .cases d:fc (ep p.t) (ep q.t) with
  |false=>rfl
  |true=>exact absurd (.inr ⟨b,.inr ⟨c,d⟩⟩) h
 cases d:fc (ep q.t) (ep p.t) with
 |false=>rfl
 |true=>exact absurd (.inr ⟨b.symm,.inr ⟨c.symm,d⟩⟩) k
def Ye{p q r}(h:jN p q=Bf)(k:jN q r=Bf):jN p r=false:=by
 cases a:jN p r with
 |false=>rfl
 |true=>
  cases b:jN r q with
  |true=>rw[I9 a b]at h;cases h
  |false=>obtain⟨c,d,i⟩:=OP k b;rw[Az,<-c,<-d,<-i,<-Az]at a;rw[a]at h;cases h
def U0(L:List Pl):(List.finRange (Z L)).map (λi=>L[i])=L:=by
 apply GM
 .simp
 intro i a b;simp
def amo(wr base al cl L)(h:Ow wr base 148 7 (U al (Z L) cl) (Z L) (L.flatMap gy))(hl:Z L<=1000000)(ku:∀p∈L,fY p.t/\(gW p.t.1 (iP p.t)).length<=1000000000)(vI:(L.map λp=>ep p.t).Nodup):Calls prog 105 #[U al (Z L) cl,.func (.func 106) #[] #[]] wr λe w'=>e=Vr (Vt #[])/\∃i,i.Perm L/\(i.Pairwise λp q=>jN p q=Bt)/\Ow w' base 148 7 (U al (Z L) cl) (Z i) (i.flatMap gy)/\wr.grownBy w' (U al (Z L) cl).ownBlock:=by
 rcases h.2 with⟨hv,h0⟩|⟨g,_,_,hv,hb,hg,yY,Ab,xp,ht⟩
 .have hx:=zO.1 h0;subst hx;injection hv with h1 h2 h3
  subst h1 h3;refine Bs (AnyF.slices_SortFunc_none sortPl G 0 _ wr) ?_;rintro e w'⟨rfl,rfl⟩;exact⟨rfl,[],.refl _,oS,dm _ _ _ _,⟨rfl,rfl,rfl,bD _,λ_ _ _=>rfl⟩⟩
 injection hv with h1 h2 h3
 subst h1 h3;have mM:g<F (X wr):=(aM.1 hg).1
 by_cases ah1:Z L=0
 .have hx:=zO.1 ah1;subst hx;refine Bs (AnyF.slices_SortFunc_none sortPl _ cl _ wr) ?_;rintro e w'⟨rfl,rfl⟩;exact⟨rfl,[],.refl _,oS,h,⟨rfl,rfl,rfl,bD _,λ_ _ _=>rfl⟩⟩
 have sI:0<Z L:=O
 haveI:Inhabited (Fin (Z L)):=⟨⟨0,sI⟩⟩
 have eg:∀args w,(callFunc 106 args).run prog w=.ok (.enter 106 args) w:=enters_of func106 oK rfl;obtain⟨enc,EH⟩:∃enc:Fin (Z L)->V8,enc=λi=>gy L[i]:=⟨_,rfl⟩
 obtain⟨cf,Wc⟩:∃cf:Fin (Z L)->Fin (Z L)->Int,cf=λi j=>Ie L[i] L[j]:=⟨_,rfl⟩
 have sH:∀i j,ltOf cf i j=jN L[i] L[j]:=λi j=>by rw[<-aii,Wc];rfl
 have hk:∀x,(enc x).length=7:=λx=>by rw[EH];rfl
 have h1:∀x,∀v∈enc x,v.oneCell'=true:=λx=>by rw[EH];exact Zz _
 have hO:SWO (ltOf cf):=⟨λx=>by rw[sH];exact OO _,λx y z a b=>by rw[sH]at*;exact I9 a b,λx y z a b=>by rw[sH]at*;exact Ye a b⟩;have hT:∀x y,ltOf cf x y=Bf->ltOf cf y x=Bf->x=y:=λx y a b=>by
  rw[sH]at a b;obtain⟨_,_,e⟩:=OP a b;rw[Tc,LZ]at vI;rcases BF x.1 y.1 with c|c|c
  .exact absurd (oU e) (vI x.1 y.1 oS oS c)
  .exact Fin.ext c
  exact absurd (oU e.symm) (vI y.1 x.1 oS oS c)
 have kK:(List.finRange (Z L)).flatMap enc=L.flatMap gy:=by have:=gQ (λl=>List.flatMap gy l) (U0 L);simp only[yl]at this;rw[EH];exact this
 have Wp:(List.finRange (Z L)).length=Z L:=oS
 have agr:CmpLays prog 106 #[] enc 7 cf g 0 (List.finRange (Z L)).toArray.size wr:=λm o dk hdk x y=>by
  have hx:=ku L[x] (aN _);have hy:=ku L[y] (aN _);have hc:=aep (aeH (sortWorldK enc 7 wr g 0 m dk o) L[x] L[y] hx.1 hy.1 hx.2 hy.2);rw[EH,Wc]at*;refine Bs hc ?_;rintro e w'⟨⟨rfl,kV⟩,hd⟩;exact⟨rfl,aga kV (hd _ rfl)⟩
 have Wf:=AnyQ.slices_SortFunc_total sortPl 7 isAgg148 sizeOf148 enc hk h1 cf hO 106 #[] g 0 cl (List.finRange (Z L)).toArray wr eg agr (agW hk hg (by rw[Wp,kK];exact ht)) mM oT hT;have hsz:(List.finRange (Z L)).toArray.size=Z L:=oS
 rw[hsz]at Wf;refine Bs Wf ?_;rintro e w'⟨rfl,_,o,rfl⟩;obtain⟨M,hM⟩:∃M,M=(List.finRange (Z L)).mergeSort λx y=>!(ltOf cf) y x:=⟨_,rfl⟩
 have hMe:((List.finRange (Z L)).toArray.toList.mergeSort λx y=>!(ltOf cf) y x)=M:=by rw[hM]
 have Cw:M.Perm (List.finRange (Z L)):=by rw[hM];exact LY _ _
 have pk:Z M=Z L:=by rw[Cw.length_eq,Wp]
 have Cf:M.flatMap enc=(M.map λi=>L[i]).flatMap gy:=by rw[yl,EH]
 refine⟨rfl,M.map (λi=>L[i]),?_,?_,?_,ag8 _⟩
 .have:=Cw.map (λi=>L[i]);rw[U0]at this;exact this
 .have hs:M.Pairwise λx y=>(!(ltOf cf) y x)=true:=by
   rw[hM];refine L0 (λa b c x y=>?_) (λa b=>?_) _
   .simp only[sH,zL]at*;exact Ye y x
   simp only[sH]
   cases q1:jN L[a] L[b] with
   |false=>simp
   |true=>
    cases q2:jN L[b] L[a] with
    |false=>simp
    |true=>have:=I9 q1 q2;rw[OO]at this;cases this
  have hn:M.Nodup:=Cw.nodup_iff.2 (by
   rw[Tc,LZ];intro i j hi hj hij e;have:=gQ Fin.val e;simp at this
   omega)
  rw[wO];refine(hs.and hn).imp λ{x y} Ff=>?_
  obtain⟨q1,q2⟩:=Ff;simp only[zL]at q1
  cases q3:jN L[x] L[y] with
  |true=>rfl
  |false=>exact absurd (hT x y (by rw[sH];exact q3) q1) q2
 rw[hMe,<-Cf,bF];exact ajO hk pk hb hg yY Ab xp
end
section
open Go.RowKit Go.Maps
attribute [local go_sem ↓] pB qa p9 pY
attribute [local go_sem] sT sR
def mR(S:B8->Nat)(p:Th×Nat):Pl:=⟨p.1,S p.1.1,p.2⟩
def ahh:(prog.info? 148).map (λi=>(i.zero,i.size,i.bytes))=P (P (Va #[Y ⟨#[]⟩,Y ⟨#[]⟩,Y ⟨#[]⟩,Y ⟨#[]⟩,Y ⟨#[]⟩,I J 0,I J 0]),7,96):=oK
def akf(a o p j u)(h:(gy p)[j]?=P u):Ce (Al (Al a o) (Vc (gy p).toArray 148)) (((C (F (X a)+1) 0 G):Addr).add j)=P u:=by
 have e:((C (F (X a)+1) 0 G):Addr).add j=(C (F (X a)+1) j G):=by unfold Addr.add;split<;>simp_all
 rw[e,World.cell?_alloc_at _ _ _ _ oS];simpa using h
structure Tl(w:W8)(kb rb:Nat)(S:B8->Nat)(K:List (Th×Nat))(Lf:Th->Prop)(ts:List (Th×Nat))(v:V9)(cA:Nat)(wr:W8):Prop where
 rg:n9 wr kb rb K Lf cA
 mem:∀p,p∈ts↔p∈K/\¬Lf p.1
 nd:ts.Nodup
 len:Z ts+cA<=Z K
 row:Ow wr (F (X w)+1) 148 7 v (Z ts) (ts.flatMap λp=>gy (mR S p))
 k:Below (F (X w)) w wr
def ajw{K i:List (Th×Nat)}{c:Th->Prop}{t n}(j:∀p,p∈i↔p∈K/\¬c p.1)(g:(t,n)∈K)(f:(K.map (·.1)).Nodup):∀p,p∈i++[(t,n)]↔p∈K/\¬(c p.1/\p.1≠t):=by
 intro p;rw[aS,j,bu]
 constructor
 .rintro(⟨a,b⟩|rfl)
  .exact⟨a,λh=>b h.1⟩
  exact⟨g,λh=>h.2 rfl⟩
 rintro⟨a,b⟩
 by_cases e:p.1=t
 .right
  have d:bK K t=P p.2:=sL f (by rw[<-e];exact a);rw[sL f g]at d;have:=cI d;exact zP e this.symm
 left;exact⟨a,λh=>b ⟨h,e⟩⟩
def acp(w:W8)(S:B8->Nat)(K:List (Th×Nat))(e:Ending)(w':W8):Prop:=
 ∃(b:List Pl)(a:O8)(c:Nat),e=Vr (U a (Z b) c)/\b.Perm (K.map (mR S))/\(b.Pairwise λp q=>jN p q=Bt)/\Ow w' (F (X w)) 148 7 (U a (Z b) c) (Z b) (b.flatMap gy)/\Below (F (X w)) w w'
def ajx(w o M n E S K)(A:bQ w o K)(k:dt prog 9 w M n (bq E S))(hK:Z K<=1000)(v:∀p∈K,(gW p.1.1 (iP p.1)).length<=1000000000)(a:∀p∈K,p.1.1.size<=1000000/\(bE E p.1.1).isSome=Bt)(l:(K.map λp=>ep p.1).Nodup):Calls prog 67 #[.map (P o),.map (P M)] w (acp w S K):=by
 obtain⟨i0,d,gB,dx,cB⟩:=info_parts ahh;have Ll:=H v;have T:=H a;have Q:=H l;have sG:=A.lt;have pn:=k.lt;have HM:=H A;have HT:=H k;clear v A k a l;have vE:=Ey;have l:=ag HM;go_in;go_wp2_with(first|(at_range;refine Kr _ rfl _ 83 rfl underlying83 o K rfl l ?_;intro w1 a v k)|go_in)
 try go_frame
 have g:Tl w o (F (X w)) S K (λ_=>True) [] (U G 0 0) (Z K) w1:=
  ⟨a,λp=>⟨λh=>absurd h BA,λh=>absurd trivial h.2⟩,oS,oS,dm _ _ _ _,⟨v.os,v.tape,v.output,v.size,λj e=>v.block j e oS⟩⟩
 have j:=H g;clear a v k l g
 go_loopg [5] (Z K) (λg v wr=>∃(Lf:Th->Prop)(a:List (Th×Nat)),Tl w o (F (X w)) S K Lf a v g wr)
 exact⟨_,_,j⟩
 case round=>
  clear j;obtain⟨Lf,a,v⟩:=hrel;obtain⟨a1,c1,rfl⟩:=aF v.row;have l:=v.rg;have Fa:F (X w)<F (X wr):=v.rg.lt;have hlen:=v.len;have k:=H v;clear v;go_wp2_with(first|(at_next;refine Kq _ rfl _ rfl o (F (X w)) K Lf gk rfl l ?_ ?_)|go_in)
  .intro g;have m:=H g;have v:=ag k;have e:a.Perm K:=(GY v.nd (Zf v.rg.map.nodup)).2 λp=>by
    rw[v.mem];exact⟨λh=>h.1,λh=>⟨h,g p.1.1 p.1.2 p.2 h⟩⟩
   have x:(a.map (mR S)).length=Z a:=oS;have j:=v.row;rw[<-x,show(a.flatMap λp=>gy (mR S p))=(a.map (mR S)).flatMap gy by rw[yl]]at j
   have b:=H (amo wr (F (X w)+1) a1 c1 (a.map (mR S)) j (by rw[x];omega) (λp c=>by
    obtain⟨y,hy,rfl⟩:=aU.1 c;have c:=e.mem_iff.1 hy
    exact⟨v.rg.map.ok _ c,Ll _ c⟩) (by
    rw[km]
    exact((e.map _).nodup_iff).2 Q))
   rw[x]at b;have z:=H e;clear g l v j e;go_wp2_with(go_at_call 105;refine(b).mono ?_;rintro e j⟨rfl,g,c,i,f,s⟩;have t:=H (And.intro c (And.intro i (And.intro f s)));clear c i f s);go_ret;obtain⟨s,D,L,c⟩:=ag t;have v:=ag k;have f:Z g=Z a:=(by rw[s.length_eq,x]);refine⟨g,a1,c1,by rw[f];rfl,s.trans (z.map _),D,?_,?_⟩
   .rw[f]at L⊢;exact aX L O
   exact⟨c.os.trans v.k.os,c.tape.trans v.k.tape,c.output.trans v.k.output,bf v.k.size c.size,λi d=>(c.block i O (λe=>by have:=(v.row.lt i e.symm).1;omega)).trans (v.k.block i d)⟩
  intro tp F4 h j s c z f sH x xv IC;have v:=ag k;have b:Below (F (X w)) w j:=⟨x.os.trans v.k.os,x.tape.trans v.k.tape,x.output.trans v.k.output,bf v.k.size x.size,λi d=>(x.block i O oT).trans (v.k.block i d)⟩;have L:Ow j (F (X w)+1) 148 7 (U a1 (Z a) c1) (Z a) (a.flatMap λp=>gy (mR S p)):=gC v.row (λg e=>x.block g (v.row.lt g e).2 (λe2=>by have:=(v.row.lt g e).1;injection e2 with e2;omega));generalize((tp,F4):Th)=t at*;obtain⟨Cv,D⟩:=T _ c;obtain⟨m,g⟩:=tq.1 D;simp only at Cv g;have hT:fY t:=v.rg.map.ok _ c;have qH:F (X wr)<=F (X j):=x.size;have k3:Below (F (X j)) j (Al j (Vc (bP t).toArray 88)):=B9.alloc L9 _;have t3:(oO (Vp (P (C (F (X j)) 0 G)))).run prog (Al j (Vc (bP t).toArray 88))=.ok (Va #[Y t.1,Y (bj t.2 0),Y (bj t.2 1),Y (bj t.2 2),Y (bj t.2 3)]) (Al j (Vc (bP t).toArray 88)):=(TV.new j t).load;have q0:Ce (Al j (Vc (bP t).toArray 88)) (C (F (X j)) 0 G)=P (Y t.1):=(aj (TV.new j t) 0).1;have hmT:dt prog 9 (Al j (Vc (bP t).toArray 88)) M n (bq E S):=HT.block ((b.trans (k3.mono b.size)).block M pn);have u:t.1.size<=maxLen:=oM
  have hu:(bq E S t.1).getD (Va #[Y ⟨#[]⟩,I J 0,I J 0])=Va #[Y t.1,I J (S t.1),I J m]:=by unfold bq;rw[g];rfl
  have r:=H f;have N:=H b;have V:=H L;have W:=H (ajw v.mem c v.rg.map.nodup);have B:(t,h)∉a:=λA=>((v.mem _).1 A).2 z
  have R:=H B;have q:=H v.nd;have p:=(L.alloc (Vc (bP t).toArray 88)).alloc (Vc (gy (mR S (t,h))).toArray 148);clear xv x l f b L c z v k3 B g D
  go_wp2_with(first
    | (at_lookup;refine Vn _ rfl _ _ 73 rfl 9 185 underlying9 underlying73 (zeroValue185 _) M n (bq E S) rfl hmT t.1 rfl u _ hu ?_)
    | (at_builtin;refine ka _ rfl _ _ 141 rfl (F (X w)+1) 148 i0 _ 7 96 underlying141 d gB dx cB rfl oD _ _ _ rfl p (C (F (X j)+1) 0 G) 1 1 (gy (mR S (t,h))) rfl rfl (akf j (Vc (bP t).toArray 88) (mR S (t,h))) (Zz _) oM O oT ?_;intro B c x g v;clear v;obtain⟨_,_,rfl⟩:=aF x;have D:=H x;have v:=H g;clear x g))
  go_roundg s
  case measure=>omega
  case rel=>
   have g:=ag v;have b:=ag N;have L:=ag V;have B:∀i,i<=F (X w)->c.heap[i]?=j.heap[i]?:=λi d=>by
    rw[g.block i oT (λe=>by have:=(L.lt i e.symm).1;omega),aW _ _ _ oT,aW _ _ _ O]
   refine⟨_,a++[(t,h)],r.kT (B _ O) (B _ L9),W,pF.2 ⟨q,oS,λx z y hy e=>by rw[bu.1 hy]at e;rw[e]at z;exact R z⟩,by rw[br];simp;omega,?_,?_⟩
   .have x:=ag D;have z:(a++[(t,h)]).length=Z a+1:=oS;rw[z,oc];simpa using x
   exact⟨g.os.trans b.os,g.tape.trans b.tape,g.output.trans b.output,by have z:=g.size;have x:=b.size;simp at z;omega,λi d=>(B i O).trans (b.block i d)⟩
end
def lh(l:List B8):V8:=l.map Y
structure js(w:W8)(A T:aR)(nv tv av bv:V9)(ns ts:List B8)(nR jG:V9)(wr:W8):Prop where
 ai:Below (F (X w)) w wr
 b0:wr.heap[F (X w)]?=P (Vc #[nv,tv] 258)
 b1:wr.heap[F (X w)+1]?=P (Vc #[Y A.ax,av,Vb A.no,I J A.aC,I J A.aO] 243)
 b2:wr.heap[F (X w)+1+1]?=P (Vc #[Y T.ax,bv,Vb T.no,I J T.aC,I J T.aO] 243)
 b3:wr.heap[F (X w)+1+1+1]?=P (Vc #[U G 0 0,U G 0 0] 258)
 b4:wr.heap[F (X w)+1+1+1+1]?=P (Vc #[nR,jG] 258)
 rn:Ow wr (F (X w)+5) 9 1 nR (Z ns) (lh ns)
 rt:Ow wr (F (X w)+5) 9 1 jG (Z ts) (lh ts)
 ne:∀g,nR.ownBlock=P g->jG.ownBlock≠P g
 nn:ns=[]->nR=U G 0 0
 tn:ts=[]->jG=U G 0 0
variable {a c:List B8}{d e:aR}{f i j k:V9}{b l:W8}
def js.lt(w:js b d e f i g h a c j k l):F (X b)+5<=F (X l):=(aM.1 w.b4).1
def js.zm{m}(T:js b d e i f g h a c j k l)(wr:Below (F (X l)) l m):js b d e i f g h a c j k m:=by have n:=T.lt;exact⟨T.ai.trans (wr.mono O),(wr.block _ O).trans T.b0,(wr.block _ O).trans T.b1,(wr.block _ O).trans T.b2,(wr.block _ O).trans T.b3,(wr.block _ O).trans T.b4,aQ T.rn wr (λA w=>(T.rn.lt A w).2),aQ T.rt wr (λA w=>(T.rt.lt A w).2),T.ne,T.nn,T.tn⟩
def js.start(w A T b c a d):js w A T b c a d [] [] (U G 0 0) (U G 0 0) (Al (Al (Al (Al (Al w (Vc #[b,c] 258)) (Vc #[Y A.ax,a,Vb A.no,I J A.aC,I J A.aO] 243)) (Vc #[Y T.ax,d,Vb T.no,I J T.aC,I J T.aO] 243)) (Vc #[U G 0 0,U G 0 0] 258)) (Vc #[U G 0 0,U G 0 0] 258)):=by
 refine⟨((((((aZ _ w).alloc L9 _).alloc oS _).alloc oT _).alloc oT _).alloc oT _),?_,?_,?_,?_,?_,dm _ _ _ _,dm _ _ _ _,(λg e=>by cases e),(λ_=>rfl),(λ_=>rfl)⟩
 .rw[aW _ _ _ (by simp<;>omega),aW _ _ _ (by simp<;>omega),aW _ _ _ (by simp<;>omega),aW _ _ _ oS];exact aG w _
 .rw[aW _ _ _ (by simp<;>omega),aW _ _ _ (by simp<;>omega),aW _ _ _ oS];have:=aG (Al w (Vc #[b,c] 258)) (Vc #[Y A.ax,a,Vb A.no,I J A.aC,I J A.aO] 243);simpa using this
 .rw[aW _ _ _ (by simp<;>omega),aW _ _ _ oS];have:=aG (Al (Al w (Vc #[b,c] 258)) (Vc #[Y A.ax,a,Vb A.no,I J A.aC,I J A.aO] 243)) (Vc #[Y T.ax,d,Vb T.no,I J T.aC,I J T.aO] 243);simpa using this
 .rw[aW _ _ _ oS];have:=aG (Al (Al (Al w (Vc #[b,c] 258)) (Vc #[Y A.ax,a,Vb A.no,I J A.aC,I J A.aO] 243)) (Vc #[Y T.ax,d,Vb T.no,I J T.aC,I J T.aO] 243)) (Vc #[U G 0 0,U G 0 0] 258);simpa using this
 have:=aG (Al (Al (Al (Al w (Vc #[b,c] 258)) (Vc #[Y A.ax,a,Vb A.no,I J A.aC,I J A.aO] 243)) (Vc #[Y T.ax,d,Vb T.no,I J T.aC,I J T.aO] 243)) (Vc #[U G 0 0,U G 0 0] 258)) (Vc #[U G 0 0,U G 0 0] 258);simpa using this
def aax(a b):lh (a++b)=lh a++lh b:=fg
def js.TA{w A T y z u v c f i q wr W w5}(h:js w A T y z u v i q c f wr)(x:ak [] wr W)(B:W.grownBy w5 c.ownBlock){g cap m news}(j:Z news=m)(D:0<m)(n:Ow w5 (F (X w)+5) 9 1 (U (P (C g 0 G)) (Z i+m) cap) (Z i+m) (lh i++lh news)) (s:c.ownBlock=P g\/g=F (X W)):js w A T y z u v (i++news) q (U (P (C g 0 G)) (Z i+m) cap) f (Sc w5 (C (F (X w)+1+1+1+1) 0 G) (U (P (C g 0 G)) (Z i+m) cap))/\w5.heap[F (X w)+1+1+1+1]?=P (Vc #[c,f] 258):=by
 have E:=h.lt;have K:=x.size;have k:ak c.ownBlock.toList wr w5:=(x.mono oS).trans (ak.jF B);have r:∀b,b<F (X w)+5->b∉c.ownBlock.toList:=λb d j=>by have:=(h.rn.lt b (oU j)).1;omega
 have a:∀b,b<F (X w)+5->w5.heap[b]?=wr.heap[b]?:=λb d=>k.block b O (r b d)
 have o:∀b,b≠(F (X w))+1+1+1+1->(Sc w5 (C (F (X w)+1+1+1+1) 0 G) (U (P (C g 0 G)) (Z i+m) cap)).heap[b]?=w5.heap[b]?:=λb d=>cx _ _ _ _ (oU d)
 have l:=(a (F (X w)+1+1+1+1) O).trans h.b4;have L:=k.size;have t:news≠[]:=λe=>by rw[e]at j;simp at j;omega
 refine⟨⟨?_,?_,?_,?_,?_,?_,?_,?_,?_,λe=>absurd (LL.1 e).2 t,h.tn⟩,l⟩
 .refine⟨k.os.trans h.ai.os,k.tape.trans h.ai.tape,k.output.trans h.ai.output,oT,λb d=>?_⟩;rw[o b O,a b O];exact h.ai.block b d
 .rw[o _ O,a _ O];exact h.b0
 .rw[o _ O,a _ O];exact h.b1
 .rw[o _ O,a _ O];exact h.b2
 .rw[o _ O,a _ O];exact h.b3
 .rw[j9 _ _ _ _ _ _ l];rfl
 .rw[aax,br,j];exact fh n oS _
 .have p:Ow w5 (F (X w)+5) 9 1 f (Z q) (lh q):=gC h.rt (λb d=>k.block b (h.rt.lt b d).2 (λj=>h.ne b (oU j) d));exact fh p oS _
 intro b e;have d:g=b:=by simpa[Value.ownBlock]using e
 subst d;rcases s with p|p
 .exact h.ne g p
 intro d;have:=(h.rt.lt g d).2;omega
def js.Hs{w A T y z u v f c q i wr W w5}(h:js w A T y z u v q i f c wr)(x:ak [] wr W)(D:W.grownBy w5 c.ownBlock){g cap m news}(j:Z news=m)(E:0<m)(n:Ow w5 (F (X w)+5) 9 1 (U (P (C g 0 G)) (Z i+m) cap) (Z i+m) (lh i++lh news)) (s:c.ownBlock=P g\/g=F (X W)):js w A T y z u v q (i++news) f (U (P (C g 0 G)) (Z i+m) cap) (Sc w5 (C (F (X w)+1+1+1+1) 1 G) (U (P (C g 0 G)) (Z i+m) cap))/\w5.heap[F (X w)+1+1+1+1]?=P (Vc #[f,c] 258):=by
 have K:=h.lt;have L:=x.size;have k:ak c.ownBlock.toList wr w5:=(x.mono oS).trans (ak.jF D);have r:∀b,b<F (X w)+5->b∉c.ownBlock.toList:=λb d j=>by have:=(h.rt.lt b (oU j)).1;omega
 have a:∀b,b<F (X w)+5->w5.heap[b]?=wr.heap[b]?:=λb d=>k.block b O (r b d)
 have o:∀b,b≠(F (X w))+1+1+1+1->(Sc w5 (C (F (X w)+1+1+1+1) 1 G) (U (P (C g 0 G)) (Z i+m) cap)).heap[b]?=w5.heap[b]?:=λb d=>cx _ _ _ _ (oU d)
 have l:=(a (F (X w)+1+1+1+1) O).trans h.b4;have M:=k.size;have t:news≠[]:=λe=>by rw[e]at j;simp at j;omega
 refine⟨⟨?_,?_,?_,?_,?_,?_,?_,?_,?_,h.nn,λe=>absurd (LL.1 e).2 t⟩,l⟩
 .refine⟨k.os.trans h.ai.os,k.tape.trans h.ai.tape,k.output.trans h.ai.output,oT,λb d=>?_⟩;rw[o b O,a b O];exact h.ai.block b d
 .rw[o _ O,a _ O];exact h.b0
 .rw[o _ O,a _ O];exact h.b1
 .rw[o _ O,a _ O];exact h.b2
 .rw[o _ O,a _ O];exact h.b3
 .rw[j9 _ _ _ _ _ _ l];rfl
 .have p:Ow w5 (F (X w)+5) 9 1 f (Z q) (lh q):=gC h.rn (λb d=>k.block b (h.rn.lt b d).2 (λj=>h.ne b d (oU j)));exact fh p oS _
 .rw[aax,br,j];exact fh n oS _
 intro B e b;have d:g=B:=by simpa[Value.ownBlock]using b
 subst d;rcases s with p|p
 .exact h.ne g e p
 have:=(h.rn.lt g e).2;omega
variable {m:Nat}
def js.same(T:js b d e i g h f a c j k l){v}(n:(#[j,k]:Array V9).setIfInBounds m v=#[j,k]):js b d e i g h f a c j k (Sc l (C (F (X b)+1+1+1+1) m G) v):=by
 have o:=T.lt;have A:∀w,w≠(F (X b))+1+1+1+1->(Sc l (C (F (X b)+1+1+1+1) m G) v).heap[w]?=l.heap[w]?:=λw wr=>cx _ _ _ _ (oU wr)
 refine⟨T.ai.setCell oT _,?_,?_,?_,?_,?_,?_,?_,T.ne,T.nn,T.tn⟩
 .rw[A _ O];exact T.b0
 .rw[A _ O];exact T.b1
 .rw[A _ O];exact T.b2
 .rw[A _ O];exact T.b3
 .rw[j9 _ _ _ _ _ _ T.b4,n]
 .exact fh T.rn oS _
 exact fh T.rt oS _
def js.Ca(w:js b d e g i h f c a j k l)(u v):Below (F (X b)) b (Sc (Sc l (C (F (X b)+1+1+1) 0 G) u) (C (F (X b)+1+1+1) 1 G) v)/\Ow (Sc (Sc l (C (F (X b)+1+1+1) 0 G) u) (C (F (X b)+1+1+1) 1 G) v) (F (X b)) 9 1 j (Z c) (lh c)/\Ow (Sc (Sc l (C (F (X b)+1+1+1) 0 G) u) (C (F (X b)+1+1+1) 1 G) v) (F (X b)) 9 1 k (Z a) (lh a):=
 ⟨(w.ai.setCell oT _).setCell oT _,aX (fh (fh w.rn oS _) oS _) O,aX (fh (fh w.rt oS _) oS _) O⟩
def aay :∀u∈lh a,u.oneCell'=true:=by intro u l;obtain⟨_,_,rfl⟩:=aU.1 l;rfl
def Qr{e g n d c}(h:Ow b m e 1 (U (P (C g 0 G)) n d) n c):∀j u,c[j]?=P u->Ce b (((C g 0 G):Addr).add j)=P u:=by
 intro j u i;have a:=h.1;have k:j<Z c:=(qj.1 i).1;obtain⟨_,_,l,_,_,_,f⟩:=rZ h O;injection l with w o p
 injection w with w
 injection w with w
 subst w;have:=f j O;unfold Addr.add
 split<;>simp_all
def DY(w:W8)(nv tv:V9)(r:Option ec):Ending->W8->Prop:=λe w'=>Below (F (X w)) w w'/\(r=G->e=Vr (Vt #[Va #[nv,tv],Vb Bf]))/\(∀E',r=P E'->∃nR jG,e=Vr (Vt #[Va #[nR,jG],Vb Bt])/\jz w' (F (X w)) E' nR jG)
variable {a:ec}{b c:aR}{d e:V9}{j k:W8}
def js.jM(E:js j b c i d f g (a.map (·.1)) (a.map (·.2)) e h k):jz k (F (X j)+5) a e h:=by have w:=E.rn;have A:=E.rt;simp only[bF,lh,km]at w A;exact⟨w,A,λT=>⟨E.nn (by simp[T]),E.tn (by simp[T])⟩⟩
def aiv(w)(A T:aR)(c a g h n d f i j)(b:(A.ax.toList==T.ax.toList&&Z A.aq==Z T.aq)=Bf):Calls prog 139 #[Va #[U c n d,U a n f],Va #[Y A.ax,U g (Z A.aq) i,Vb A.no,I J A.aC,I J A.aO],Va #[Y T.ax,U h (Z T.aq) j,Vb T.no,I J T.aC,I J T.aO]] w (λe k=>Below (F (X w)) w k/\e=Vr (Vt #[Va #[U c n d,U a n f],Vb Bf])):=by
 cases e:A.ax.toList==T.ax.toList with
 |false=>clear b;go_in;go_wp2_with fail;refine bN (v:=Vt #[Va #[U c n d,U a n f],Vb Bf]) (by simp[results,results139,go_sem]) rfl ⟨?_,rfl⟩;exact((((aZ _ w).alloc L9 _).alloc oS _).alloc oT _).alloc oT _
 |true=>
  have k:((Z A.aq:Int)==(Z T.aq:Int))=false:=by rw[e]at b;simp at b⊢;omega
  clear b;go_in;go_wp2_with fail;refine bN (v:=Vt #[Va #[U c n d,U a n f],Vb Bf]) (by simp[results,results139,go_sem]) rfl ⟨?_,rfl⟩;exact((((aZ _ w).alloc L9 _).alloc oS _).alloc oT _).alloc oT _
def TC{E b}:(a++[(E,b)]).map (·.1)=a.map (·.1)++[E]/\(a++[(E,b)]).map (·.2)=a.map (·.2)++[b]:=oS
def js.ret(E:js j b c i d f g (a.map (·.1)) (a.map (·.2)) e h k)(u v):jz (Sc (Sc k (C (F (X j)+1+1+1) 0 G) u) (C (F (X j)+1+1+1) 1 G) v) (F (X j)) a e h:=by obtain⟨_,w,A⟩:=E.Ca u v;simp only[bF,lh,km]at w A;exact⟨w,A,λT=>⟨E.nn (by simp[T]),E.tn (by simp[T])⟩⟩
def aiw(w base E)(A T:aR)(V h aa ba R S ca cb)(i:jz w base E (U V (Z E) R) (U h (Z E) S))(t:Ow w base 317 3 (U aa (Z A.aq) ca) (Z A.aq) (cellsOf A.aq))(D:Ow w base 317 3 (U ba (Z T.aq) cb) (Z T.aq) (cellsOf T.aq))(yT:Z E+Z A.aq<=1000)(hp:(A.ax.toList==T.ax.toList)=Bt)(Q:Z A.aq=Z T.aq):Calls prog 139 #[Va #[U V (Z E) R,U h (Z E) S],Va #[Y A.ax,U aa (Z A.aq) ca,Vb A.no,I J A.aC,I J A.aO],Va #[Y T.ax,U ba (Z T.aq) cb,Vb T.no,I J T.aC,I J T.aO]] w (DY w (U V (Z E) R) (U h (Z E) S) (mz E A.aq T.aq)):=by
 obtain⟨i0,hi,gB,dx,cB⟩:=info_parts apu;have qF:((Z A.aq:Int)==(Z T.aq:Int))=true:=oT
 have p:=js.start w A T (U V (Z E) R) (U h (Z E) S) (U aa (Z A.aq) ca) (U ba (Z T.aq) cb);have N:=H p;have HE:=H i;have HA:=H t;have HT:=H D;have HL:=H Q;clear p i t D Q;go_in;go_upto_region 3 with fail
 go_cut [8] (λp wc=>p=Vp (P (C (F (X w)+1+1+1+1) 0 G))/\js w A T (U V (Z E) R) (U h (Z E) S) (U aa (Z A.aq) ca) (U ba (Z T.aq) cb) [] [] (U G 0 0) (U G 0 0) wc)
 case first=>
  go_wp2;go_meet
  case rel=>exact⟨rfl,ag N⟩
 case rest=>
 clear N;obtain⟨rfl,N⟩:=hcut;obtain⟨K,t⟩:=aj N.b0 0;obtain⟨q0,D⟩:=aj N.b4 0;have i:=H N;have Q:=N.lt;clear N t;go_upto_region 4 with fail
 go_cut [] (λwc=>∃N,js w A T (U V (Z E) R) (U h (Z E) S) (U aa (Z A.aq) ca) (U ba (Z T.aq) cb) (E.map (·.1)) [] N (U G 0 0) wc)
 case first=>
  by_cases hE:E=[]
  .subst hE;obtain⟨t,v⟩:=(ag HE).nil rfl;injection t with t _ s
   injection v with v _ k
   subst t v s k;go_wp2;go_meet
   case rel=>exact⟨_,(ag i).same rfl⟩
  have m:0<Z E:=by
   cases E with
   |nil=>exact absurd rfl hE
   |cons _ _=>simp
  obtain⟨g1,c1,B,-,-,-,-⟩:=rZ (ag HE).ns m;injection B with u i2 b
  subst u b;have z:=H (Qr (aQ (ag HE).ns (ag i).ai (λg e=>((ag HE).ns.lt g e).2)));have f:=H (λ(n:W8)(g c:Nat) hg l y=>js.TA (w5:=n) (g:=g) (cap:=c) (m:=Z E) (news:=E.map (·.1)) (ag i) (ak.refl [] _) hg oS m l y);go_wp2_with(at_builtin;go_must (refine wpList_append_lies _ rfl _ _ _ rfl (F (X w)+5) 9 i0 (Y ⟨#[]⟩) 1 16 underlying33 hi gB dx cB rfl oD (U G 0 0) 0 [] rfl (dm _ _ _ _) (C g1 0 G) (Z E) R (lh (E.map (·.1))) rfl (by simp[lh]) (by simpa[lh,km]using ag z) aay m oM O Q _ rfl ?_;intro g c n d r j rP;obtain⟨t,v⟩:=ag f n g c r d j;obtain⟨z0,nw⟩:=aj v 0));go_meet
  case rel=>exact⟨_,by simpa using t⟩
 case rest=>
 clear i K q0 D Q;obtain⟨_,i⟩:=hcut;obtain⟨_,c1,rfl⟩:=aF i.rn;obtain⟨p1,Q⟩:=aj i.b0 1;obtain⟨q1,K⟩:=aj i.b4 1;have p:=H i;have a:=i.lt;clear i Q;go_upto_region 5 with fail
 go_cut [] (λwc=>∃N jG,js w A T (U V (Z E) R) (U h (Z E) S) (U aa (Z A.aq) ca) (U ba (Z T.aq) cb) (E.map (·.1)) (E.map (·.2)) N jG wc)
 case first=>
  by_cases hE:E=[]
  .subst hE;obtain⟨t,v⟩:=(ag HE).nil rfl;injection t with t _ s
   injection v with v _ k
   subst t v s k;go_wp2;go_meet
   case rel=>exact⟨_,_,(ag p).same rfl⟩
  have m:0<Z E:=by
   cases E with
   |nil=>exact absurd rfl hE
   |cons _ _=>simp
  obtain⟨g1,T3,B,-,-,-,-⟩:=rZ (ag HE).ts m;injection B with u i2 b
  subst u b;have z:=H (Qr (aQ (ag HE).ts (ag p).ai (λg e=>((ag HE).ts.lt g e).2)));have f:=H (λ(n:W8)(g c:Nat) hg l y=>js.Hs (w5:=n) (g:=g) (cap:=c) (m:=Z E) (news:=E.map (·.2)) (ag p) (ak.refl [] _) hg oS m l y);go_wp2_with(at_builtin;go_must (refine wpList_append_lies _ rfl _ _ _ rfl (F (X w)+5) 9 i0 (Y ⟨#[]⟩) 1 16 underlying33 hi gB dx cB rfl oD (U G 0 0) 0 [] rfl (dm _ _ _ _) (C g1 0 G) (Z E) S (lh (E.map (·.2))) rfl (by simp[lh]) (by simpa[lh,km]using ag z) aay m oM O a _ rfl ?_;intro g c n d r j rP;obtain⟨t,v⟩:=ag f n g c r d j;obtain⟨z0,nw⟩:=aj v 1));go_meet
  case rel=>exact⟨_,_,by simpa using t⟩
 case rest=>
 clear p p1 q1 K a;obtain⟨nv2,tv2,a⟩:=hcut;have s:=H a;clear a;go_wp2
 go_loopg [9] (Z A.aq) (λM i wr=>∃(k:Nat)(a:ec)(N jG:V9),k<=Z A.aq/\M=Z A.aq-k/\i=I J k/\(Z a)<=Z E+k/\mz a (A.aq.drop k) (T.aq.drop k)=mz E A.aq T.aq/\js w A T (U V (Z E) R) (U h (Z E) S) (U aa (Z A.aq) ca) (U ba (Z T.aq) cb) (a.map (·.1)) (a.map (·.2)) N jG wr)
 exact⟨0,E,nv2,tv2,aI _,rfl,rfl,O,rfl,ag s⟩
 case round=>
  clear s;obtain⟨k,a,N,jG,_,_,rfl,_,M,s⟩:=hrel;obtain⟨o,q,rfl⟩:=aF s.rn;obtain⟨yC,Eu,rfl⟩:=aF s.rt;simp only[bF]at s;have i:=s.lt;obtain⟨p1,Q⟩:=aj s.b1 1;obtain⟨r1,L⟩:=aj s.b2 1;obtain⟨o0,PC⟩:=aj s.b0 0;obtain⟨o1,PD⟩:=aj s.b0 1;obtain⟨q0,D⟩:=aj s.b4 0;obtain⟨q1,K⟩:=aj s.b4 1;obtain⟨t0,tf0⟩:=aj s.b3 0;obtain⟨t1,tf1⟩:=aj s.b3 1;have HM:=H s;have HF:=H M;clear s M Q L PC PD
  by_cases gA:k<Z A.aq
  .have N5:k<Z T.aq:=(by rw[<-ag HL];exact gA);have M:=H ((ag HF).symm.trans (aiu gA N5));have kf:(k:Int)<Z A.aq:=O;have hkT:(k:Int)<Z T.aq:=O;clear HF;go_wp2_with fail;refine J3 6 Jj oK λW hW=>?_
   simp only[DP,BC,By,vb];have x:Hid (js w A T (U V (Z E) R) (U h (Z E) S) (U aa (Z A.aq) ca) (U ba (Z T.aq) cb) (a.map (·.1)) (a.map (·.2)) (U o (Z a) q) (U yC (Z a) Eu) W):=(by rw[hW];exact(ag HM).zm B9.drew);clear hW HM p1 r1 o0 o1 q0 q1 D K t0 tf0 t1 tf1 i;obtain⟨p1,Q⟩:=aj (ag x).b1 1;obtain⟨q0,D⟩:=aj (ag x).b4 0;obtain⟨q1,K⟩:=aj (ag x).b4 1;obtain⟨ga,T3,B,-,-,_,_,d0,d1,d2⟩:=zn (aQ (ag HA) (ag x).ai (λg e=>((ag HA).lt g e).2)) k gA;injection B with u i2 b
   subst u b;clear Q D K
   repeat still_step
   refine wpStill_nil ?_;clear p1 q0 q1;go_wp2_with fail;refine(aab W (F (X w)+5) a o yC q Eu (ag x).jM A.aq[k].text A.aq[k].jv A.aq[k].aC).mono ?_;rintro e w1⟨rfl,W⟩;have p:=H ((ag x).zm W);clear x W d0 d1 d2;obtain⟨r1,L⟩:=aj (ag p).b2 1;obtain⟨gb,_,E0,-,-,_,_,f0,x,W⟩:=zn (aQ (ag HT) (ag p).ai (λg e=>((ag HT).lt g e).2)) k N5;injection E0 with u i2 b
   subst u b;clear L x W;have x:nK a ⟨A.aq[k].text,A.aq[k].jv,A.aq[k].aC⟩=nK a A.aq[k]:=rfl;rw[x];clear x;generalize nK a A.aq[k]=x at*
   cases hx:x.toList==[] with
   |true=>
    have W:=(ag M).trans (by rw[aD hx]);obtain⟨L,Ov⟩:∃L,A.aq[k].text=L:=⟨_,rfl⟩;obtain⟨tt,Oy⟩:∃tt,T.aq[k].text=tt:=⟨_,rfl⟩;rw[Ov,Oy]at W;rw[Oy]at f0;have i:=H W;have Lj:=H Ov;clear W Ov Oy;clear M;go_upto_region 12 with fail
    go_cut [] (λwc=>∃Zn,js w A T (U V (Z E) R) (U h (Z E) S) (U (P (C ga 0 G)) (Z A.aq) ca) (U (P (C gb 0 G)) (Z T.aq) cb) (a.map (·.1)++[L]) (a.map (·.2)) Zn (U yC (Z a) Eu) wc)
    case first=>
     clear r1 f0;obtain⟨p1,Q⟩:=aj (ag p).b1 1;obtain⟨q0,D⟩:=aj (ag p).b4 0;obtain⟨_,T3,B,-,_,_,_,d0,d1,d2⟩:=zn (aQ (ag HA) (ag p).ai (λg e=>((ag HA).lt g e).2)) k gA;injection B with u i2 b
     injection u with u
     injection u with u
     subst u b;rw[ag Lj]at d0;have agL:=(ag p).lt;have hga:=((ag HA).lt ga rfl).2;have l4:F (X w)+1+1+1+1<F (X w1):=O;have l1:F (X w)+1<F (X w1):=O;have W:=(ag p).rn;simp only[bF]at W;have f:=H (λ(n:W8)(g c:Nat) hg l y=>js.TA (w5:=n) (W:=(Al w1 (Vc #[Y L] 9)).drew) (g:=g) (cap:=c) (m:=1) (news:=[L]) (ag p) (((ak.refl [] _).alloc _).drew) hg rfl oD l y);have Ob:=H (CR ((Al w1 (Vc #[Y L] 9)).drew) (F (X w1)) (Y L) 9 (aG w1 _));have s1:Hid (((Al w1 (Vc #[Y L] 9)).drew).ownsRow (F (X w)+5) 9 1 (U o (Z a) q) (Z a) (lh (a.map (·.1)))):=H (W.alloc _);have s4:Hid (Z a+1<=maxLen):=(by show _<=_;unfold maxLen;omega);have s5:Hid ((Z a+1)*16<=140737488355328):=(by show _<=_;omega);have s6:Hid (F (X w)+5<=((Al w1 (Vc #[Y L] 9)).drew).heap.size):=(by show _<=_;simp;omega);have s3:Hid (∀u∈([Y L]:V8),u.oneCell'=Bt):=by show ∀u∈_,_;intro u b;simp at b;subst b;rfl
     have Cn:Hid (∀n:W8,((Al w1 (Vc #[Y L] 9)).drew).grownBy n (U o (Z a) q).ownBlock->Ce n (C (F (X w)+1) 1 G)=P (U (P (C ga 0 G)) (Z A.aq) ca)/\Ce n (C ga (k*3) G)=P (Y L)):=H (λn hg=>by
      have kk:=(((ak.refl _ w1).alloc _).drew).grown hg (λk e=>.inr (show k∈(U o (Z a) q).ownBlock.toList by simp[e]));have rI:∀b,b<F (X w)+5->b∉(U o (Z a) q).ownBlock.toList:=λb hb s=>by have:=(W.lt b (oU s)).1;omega
      exact⟨(kk.cell (p:=(C (F (X w)+1) 1 G)) oT (rI (F (X w)+1) O)).trans p1,(kk.cell (p:=(C ga (k*3) G)) oT (rI ga O)).trans d0⟩)
     clear d1 d2 W;simp only[bF]at f;simp only[bt,aT,bx]at p1 q0
     go_region_law(refine step_append_lies _ rfl (.tmp 62) (.tmp 69) 33 rfl (F (X w)+5) 9 i0 (Y ⟨#[]⟩) 1 16 underlying33 hi gB dx cB rfl oD (U o (Z a) q) (Z a) (lh (a.map (·.1))) (by simp[Act.eval]) (ag s1) (C (F (X w1)) 0 G) 1 1 [Y L] (by simp[Act.eval]) rfl (ag Ob) (ag s3) oD (ag s4) (ag s5) (ag s6) _ rfl ?_;intro g c n d r j rP;obtain⟨t,v⟩:=ag f n g c r d j;obtain⟨_,_⟩:=ag Cn n r;obtain⟨z0,nw⟩:=aj v 0)
     all_goals
      go_wp2;go_meet
      case rel=>exact⟨_,t⟩
    case rest=>clear p r1 f0;obtain⟨Zn,u⟩:=hcut;obtain⟨_,_,rfl⟩:=aF u.rn;obtain⟨q1,K⟩:=aj u.b4 1;have W:=u.rt;simp only[bF]at W;have agL:=u.lt;have f:=H (λ(n:W8)(g c:Nat) hg l y=>js.Hs (w5:=n) (W:=Al wc (Vc #[Y tt] 9)) (g:=g) (cap:=c) (m:=1) (news:=[tt]) u ((ak.refl [] _).alloc _) hg rfl oD l y);simp only[bF]at f;have Ob:=H (CR (Al wc (Vc #[Y tt] 9)) (F (X wc)) (Y tt) 9 (aG wc _));have y:=H W;clear W u;go_wp2_with(at_builtin;go_must (refine wpList_append_lies _ rfl _ _ _ rfl (F (X w)+5) 9 i0 (Y ⟨#[]⟩) 1 16 underlying33 hi gB dx cB rfl oD (U yC (Z a) Eu) (Z a) (lh (a.map (·.2))) rfl ((ag y).alloc _) (C (F (X wc)) 0 G) 1 1 [Y tt] rfl rfl (ag Ob) (by simp[Value.oneCell']) oD oM O oT _ rfl ?_;intro g c n d r j rP;obtain⟨t,v⟩:=ag f n g c r d j;obtain⟨z0,nw⟩:=aj v 1));go_roundg(Z A.aq-(k+1));exact⟨k+1,a++[(L,tt)],_,_,O,rfl,oN,oT,(ag i).symm,by rw[TC.1,TC.2];exact t⟩;omega
   |false=>
    cases L:x.toList==T.aq[k].text.toList with
    |true=>have i:=H ((ag M).trans (by rw[aB (by rw[hx];decide),aD L]));clear M;go_wp2;go_roundg(Z A.aq-(k+1));exact⟨k+1,a,_,_,O,rfl,oN,O,(ag i).symm,ag p⟩;omega
    |false=>
     have i:=H ((ag M).trans (by rw[aB (by rw[hx];decide),aB (by rw[L];decide)]));obtain⟨o0,PC⟩:=aj (ag p).b0 0;obtain⟨o1,PD⟩:=aj (ag p).b0 1;obtain⟨t0,tf0⟩:=aj (ag p).b3 0;obtain⟨t1,tf1⟩:=aj (ag p).b3 1;clear M PC PD;go_wp2_with fail;refine bN (v:=Vt #[Va #[U V (Z E) R,U h (Z E) S],Vb Bf]) (by simp[results,results139,go_sem,t0,t1]) rfl ⟨((ag p).Ca _ _).1,λ_=>rfl,λu M=>?_⟩;rw[ag i]at M
     cases M
  have i:=H (show mz E A.aq T.aq=P a by rw[<-ag HF,gE O];rfl);clear HF r1 o0 o1 D K;go_wp2_with fail;refine bN (v:=Vt #[Va #[U o (Z a) q,U yC (Z a) Eu],Vb Bt]) (by simp[results,results139,go_sem,t0,t1]) rfl ⟨((ag HM).Ca _ _).1,λM=>?_,λu M=>⟨_,_,rfl,?_⟩⟩
  .rw[ag i]at M;cases M
  rw[ag i]at M
  cases M
  exact(ag HM).ret _ _
end
end Go.Proofs.YtldkpahaocjdpaaGreat
