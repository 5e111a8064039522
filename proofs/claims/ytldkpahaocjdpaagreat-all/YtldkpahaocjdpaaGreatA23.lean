/-
  Print and Strata of a text's two programs: what they answer is one.
-/
import Derived.Test.YtldkpahaocjdpaaGreatA22
import Derived.Test.YtldkpahaocjdpaaGreatRows
import Derived.ProofKit
import Derived.SizedLaws
import Derived.ChangeSlices
import Derived.Deep.Slices
import Derived.Deep.Strs
import Derived.Deep.CondSized
import Derived.JoinedCond
set_option maxHeartbeats 16000000
set_option maxRecDepth 1000000
namespace Go.Proofs.YtldkpahaocjdpaaGreat
open Go.Value renaming slice->U,int->I,string->Y,bool->Vb,pointer->Vp,agg->Va,tuple->Vt
open Go.IntKind renaming i64->J
open Go.Ending renaming returned->Vr
open Go.Obj renaming cells->Vc
open _root_.Option renaming none->G,some->P
open _root_.Bool renaming true->Bt,false->Bf
open Go.Addr renaming mk->C
open _root_.List renaming length->Z
open Go.World renaming heap->X,alloc->Al,setCell->Sc,cell?->Ce,ownsRow->Ow
open _root_.Array renaming size->F
open Go.Proofs.Tryz
set_option linter.defProp false
section
open Go.RowKit Go.Maps
variable {a:B8}
def ael{l}(h:a.data.toList=l):a=⟨l.toArray⟩:=by subst h;cases a;simp
noncomputable def prB(s:B8):B8:=⟨(nr (dL s).2.2.1).toArray⟩
def Tn(s:B8)(w:W8):Ending->W8->Prop:=λe w'=>e=Vr (Y (prB s))/\Below (F (X w)) w w'
def Zu(h:(eK a).1=Bt):(bT a).1.map fm=(dL a).2.2.1:=(pL h).bB.symm
variable {b c d:Nat}{e:W8}
def afl(h:jI a b d e c):Calls prog 28 #[Vp (P (C b 0 G))] e (Tn a e):=by obtain⟨w,f,s⟩:=h.x;have:=akq e c b w f (by rw[s];exact ZO h.ok);rw[s]at this;exact this
def afm(h:jI a b c e d):Calls prog 83 #[Vp (P (C c 0 G))] e (Tn a e):=by
 obtain⟨n,s,l,k,m,_,_,_,_,j,_,_,_,f,_,_⟩:=h.y;have w:C3 (n.map (·.R))=nr (dL a).2.2.1:=by unfold C3;rw[f,Zu h.ok]
 refine(alr e c n s s l k m _ j (by rw[w];exact ZO h.ok)).mono ?_;rintro o p⟨_,rfl,i,g⟩;exact⟨by rw[ael i,w];rfl,g⟩
structure Tm(s:B8)(w:W8)(v:V9)(S:B8->Nat)(ys:List B8)(w':W8):Prop where
 val:ll (dL s).2.2.1 S
 dS:og (dL s).2.2.1 S
 row:Ow w' (F (X w)) 185 3 v (Z ys) (ys.flatMap (mC (bh s).2 S))
 vW:ys.Pairwise (λx y=>fc x y=Bt)
 mem:∀k,k∈ys↔(bE (bh s).2 k).isSome=Bt
 ai:Below (F (X w)) w w'
def acs(s:B8)(w:W8):Ending->W8->Prop:=λe w'=>∃v S ys,e=Vr v/\Tm s w v S ys w'
def UP(h:jI a b c e d):Calls prog 84 #[Vp (P (C b 0 G))] e (acs a e):=by
 obtain⟨g,l,y⟩:=h.x;have k:=pL h.ok;obtain⟨n,i,j⟩:=k.pV;have s:∀r∈g,r.R∈(dL a).2.2.1:=λr w=>by rw[<-y];exact fW w
 have f:∀r∈g,r.bs.map (·.1)=r.R.body:=λr w=>by
  obtain⟨_,_,_,_,m⟩:=l;exact(m.aK r w).eq
 have m:∀r∈g,∀x∈r.bs,x.1∈r.R.body:=λr w x v=>by rw[<-f r w];exact fW v
 have u:Z g<=30:=by have:=k.len;rw[<-y,bF]at this;exact this
 have:=akE e d b g (bh a).2 l u (λr w=>by have:=k.body r.R (s r w);rw[<-f r w,bF]at this;exact this) (λr w=>k.pd r.R (s r w)) (λr w x v=>k.CL r.R (s r w) x.1 (m r w x v)) (by rw[y];exact k.Ei) (by rw[y];exact k.oz) (oF k.dc) (λr w=>⟨(k.named r.R (s r w)).1,λx v=>(k.named r.R (s r w)).2 x.1 (m r w x v)⟩) n (by rw[y];exact i) j;refine this.mono ?_;rintro w A⟨S,v,z,rfl,x,r,o,p,q,t⟩;rw[y]at x r;exact⟨v,S,z,rfl,x,r,o,p,q,t⟩
structure acA(s:B8)(w:W8)(v:V9)(zs:List nE)(w':W8):Prop where
 row:Ow w' (F (X w)) 185 3 v (Z zs) (zs.flatMap jC)
 dc:Z zs<=120
 ai:Below (F (X w)) w w'
 U5:∀{u u':W8} {v0:V9} {S:B8->Nat} {ys:List B8},Tm s u v0 S ys u'->zs.flatMap jC=ys.flatMap (mC (bh s).2 S)/\(Z zs)=Z ys
def acB(s:B8)(w:W8):Ending->W8->Prop:=λe w'=>∃v zs,e=Vr v/\acA s w v zs w'
def afo(h:jI a b c e d):Calls prog 85 #[Vp (P (C c 0 G))] e (acB a e):=by
 obtain⟨r,_,t,q,x,k,S,_,_,l,m,i,j,n,s,o⟩:=h.y;have f:=pL h.ok;subst s;refine(alA e c r (bh a).2 t q x k S l m (oF f.dc)).mono ?_;rintro w E⟨v,z,rfl,y,g,s⟩;refine⟨v,z,rfl,y.row,?_,y.ai,λ{u B D A K} p=>?_⟩
 .have:=s.length_eq;rw[zr]at this;have:=f.dc;omega
 have w:=Zu h.ok;rw[n]at i j;exact amR f.xD o i j (by rw[w];exact p.val) (by rw[w];exact p.dS) p.vW p.mem g s
variable {a:Nat}{c d:W8}
def jI.ai{s w}(h:jI s b w c a)(k:Below (F (X c)) c d):jI s b w d a:=h.kept ((ak.refl _ c).bC k)
def adN(w b x y m v)(c:jI m x y w v)(a n s t u g r o):Calls prog 50 #[Vp (P (C b 0 G)),Va #[I J 2,I J a,I J n,Y s,Y t,Y u,U g r o],Va #[Vp (P (C x 0 G)),Vp (P (C y 0 G)),Y m]] w (qv w):=by obtain⟨j,i,-,-⟩:=F5 w (Vc #[I J 2,I J a,I J n,Y s,Y t,Y u,U g r o] 26) (Vc #[Vp (P (C x 0 G)),Vp (P (C y 0 G)),Y m] 112);have k:=c.ai j;have q:=afl k;clear c;go_in;go_wp2_with fail;refine q.mono ?_;rintro e A⟨rfl,c⟩;have d:=(c.block (F (X w)+1) oS).trans i;obtain⟨z,l⟩:=aj d 1;have p:=k.ai c;have f:=j.trans (c.mono oT);have h:=afm p;clear q i j k c d;go_wp2_with fail;refine h.mono ?_;rintro e k⟨rfl,d⟩;have c:=H (f.trans (d.mono f.size));clear h d f p z l;go_wp2;go_ret;exact⟨oS,c⟩
def Q6{i t u y r e o v f s m l p n L}(k:Below (F (X c)) c d)(W:Ho d b u r e o v p m f n i)(q:Ho i b y r e o f (p++[n]) l s L t)(B:∀g∈m.ownBlock.toList,F (X c)<=g/\g<a)(A:∀g∈l.ownBlock.toList,F (X c)<=g):ak (b::v.ownBlock.toList) c t/\(∀g∈s.ownBlock.toList,g∈v.ownBlock.toList\/F (X c)<=g):=by
 have E:=k.size;have D:=W.kept.size;have K:ak (b::v.ownBlock.toList) c i:=((ak.refl _ c).bC k).step W.kept λx z=>by
  rcases bS.1 z with rfl|z
  .exact .inl bz
  rcases aS.1 z with z|z
  .exact .inl (bG _ z)
  exact .inr (B x z).1
 have j:∀g∈f.ownBlock.toList,g∈v.ownBlock.toList\/F (X c)<=g:=λg w=>(W.row g w).imp id O
 refine⟨K.step q.kept λx z=>?_,λg w=>?_⟩
 .rcases bS.1 z with rfl|z
  .exact .inl bz
  rcases aS.1 z with z|z
  .exact(j x z).imp (bG _) id
  exact .inr (A x z)
 rcases q.row g w with h|h
 .exact j g h
 exact .inr O
def AY(w:W8)(b:Nat)(j5 bv tv sv:V9)(es:List PE)(mb mt ms:List MB):Ending->W8->Prop:=λe w'=>e=Vr (Vb Bt)/\∃bv' jG F1 mb' mt' ms',LW w' b j5 bv' jG F1 es mb' mt' ms'/\(Z mb')<=Z mb+2/\(Z mt')<=Z mt+2/\(Z ms')<=Z ms+2/\ak (jL b j5 bv tv sv) w w'
def adP(w b p M R sv es mb mt z)(h:LW w b p M R sv es mb mt z)(x y ps lo)(d:jI ps x y w lo)(hlen:Z z+2<=100000000)(a bb s t u aC nt ct):Calls prog 50 #[Vp (P (C b 0 G)),Va #[I J 3,I J a,I J bb,Y s,Y t,Y u,U aC nt ct],Va #[Vp (P (C x 0 G)),Vp (P (C y 0 G)),Y ps]] w (AY w b p M R sv es mb mt z):=by
 obtain⟨v,E,-,-⟩:=F5 w (Vc #[I J 3,I J a,I J bb,Y s,Y t,Y u,U aC nt ct] 26) (Vc #[Vp (P (C x 0 G)),Vp (P (C y 0 G)),Y ps] 112);have k:=d.ai v;have T:=UP k;clear d;go_in;go_wp2_with fail;refine T.mono ?_;rintro e w1⟨_,_,d,rfl,q⟩;obtain⟨L,N,rfl⟩:=aF q.row;have W:=q.ai;have c:=(W.block (F (X w)+1) oS).trans E;obtain⟨S,j⟩:=aj c 0;have K:=k.ai W;have i:=W.size;have D:=v.trans (W.mono oT);have g:=UP K;have Q:=H q;have o:=H i;have B:=H D;have H1:=H K;have r:=H c;have kW:F (X w)+1<F (X w1):=(aM.1 c).1;clear T E v k W c q i D K;go_wp2_with fail;refine g.mono ?_;rintro e w2⟨_,_,c,rfl,W⟩;obtain⟨D,E,rfl⟩:=aF W.row;have i:=W.ai;have v:=(i.block (F (X w)+1) kW).trans r;obtain⟨q1,FO⟩:=aj v 1;have T:=H1.ai i;have k:=afo T;have K:=H W;have m:=H (B.trans (i.mono B.size));clear g i v W T S j H1 r;go_wp2_with fail;refine k.mono ?_;rintro e r⟨_,v,rfl,i⟩;obtain⟨a3,c3,rfl⟩:=aF i.row;have q:=ag Q;have W:=ag K;obtain⟨f1,l1⟩:=i.U5 q;obtain⟨f2,l2⟩:=i.U5 W;have sz1:=q.ai.size;have sz2:=W.ai.size;have sz3:=i.ai.size;have r1:Ow r (F (X w)) 185 3 (U L (Z d) N) (Z v) (v.flatMap jC):=by rw[f1,l1];exact aQ (aQ (aX q.row oT) W.ai (λg e=>(q.row.lt g e).2)) i.ai (λg e=>by have:=(q.row.lt g e).2;omega)
 have r2:Ow r (F (X w)) 185 3 (U D (Z c) E) (Z v) (v.flatMap jC):=by rw[f2,l2];exact aQ (aX W.row O) i.ai (λg e=>(W.row.lt g e).2)
 have d1:∀g∈(U L (Z d) N).ownBlock.toList,F (X w)<=g/\g<F (X w1):=λg j=>⟨(r1.lt g (oU j)).1,(q.row.lt g (oU j)).2⟩
 have d2:∀g∈(U D (Z c) E).ownBlock.toList,F (X w1)<=g/\g<F (X r):=λg j=>⟨(W.row.lt g (oU j)).1,(r2.lt g (oU j)).2⟩
 have T:=H r1;have S:=H r2;have R3:=H i.row;have D1:=H d1;have D2:=H d2;have A:=H l1;have V:=H l2;have tJ:=i.dc;have Fy:Z d<=1000:=O
 have Fz:Z c<=1000:=O
 have n:=H (h.ai (m.trans (i.ai.mono m.size)));have f:=H (m.trans (i.ai.mono m.size));have l:=H h;clear q W Q K i f1 f2 l1 l2 sz1 sz2 sz3 r1 r2 d1 d2 k B m o q1 FO h;go_wp2_with fail;refine(aag r _ _ L a3 (Z d) (Z v) N c3 v T R3 A.symm rfl O).mono ?_;rintro e w4⟨rfl,q,rfl⟩;go_wp2_with fail;refine(aag (r.drewN q) _ _ D a3 (Z c) (Z v) E c3 v S R3 V.symm rfl O).mono ?_;rintro e w4⟨rfl,Q,rfl⟩;have B:Hid (LW ((r.drewN q).drewN Q) b p M R sv es mb mt z):=H (n.ai (below_drewN (below_drewN B9 _) _));have wy:Hid (Below (F (X w)) w ((r.drewN q).drewN Q)):=H (below_drewN (below_drewN f _) _);have R1':Hid (((r.drewN q).drewN Q).ownsRow (F (X w)) 185 3 (U L (Z d) N) (Z d) (v.flatMap jC)):=by have:=ag T;rw[ag A]at this;exact this
 have Tp:Hid (((r.drewN q).drewN Q).ownsRow (F (X w)) 185 3 (U D (Z c) E) (Z c) (v.flatMap jC)):=by have:=ag S;rw[ag V]at this;exact this
 have K:Hid (∀g∈(U D (Z c) E).ownBlock.toList,F (X w1)<=g/\g<((r.drewN q).drewN Q).heap.size):=D2;clear T S R3 n f D2 A V;generalize(r.drewN q).drewN Q=W at*;have i:∀m∈z,∀g∈(U L (Z d) N).ownBlock.toList,g∉m.kT:=λm f g j n=>by
  have:=(l.ss.aK m f).lt g n;have:=(D1 g j).1;omega
 go_wp2_with fail;refine(aaC W b p M R sv z L (Z d) N _ B.blk B.ss (aX R1' (aI _)) Fy i O).mono ?_;rintro e w5⟨rfl,sv5,m5,k⟩;clear i;have o:Ow w5 0 185 3 (U D (Z c) E) (Z c) (v.flatMap jC):=by
  refine gC (aX Tp (aI _)) (λg j=>k.kept.block g (Tp.lt g j).2 ?_);have hd:=ag K g (oU j);intro f;rcases bS.1 f with rfl|f
  .have:=l.lt;omega
  rcases aS.1 f with f|f
  .have:=(l.ss.row.lt g (oU f)).2;omega
  have:=(D1 g f).2;omega
 have i:∀m∈z++[m5],∀g∈(U D (Z c) E).ownBlock.toList,g∉m.kT:=λm f g j n=>by
  have hd:=ag K g j;rcases aS.1 f with f|f
  .have:=(l.ss.aK m f).lt g n;omega
  rw[bu.1 f]at n;rcases k.rI g n with h|h
  .have:=(D1 g h).2;omega
  omega
 have Ef:=H k;have A:=H k.blk;have V:=H k.zX;have T:=H o;have S:=H i;have m:Hid ((z++[m5]).length<=100000000):=by show _<=_;rw[br,sq];omega
 clear k o i;go_wp2_with fail;refine(aaC w5 b p M R sv5 (z++[m5]) D (Z c) E _ A V T Fz S m).mono ?_;rintro e w6⟨rfl,k,_,o⟩;have i:=Q6 wy Ef o D1 (λg j=>by have:=(K g j).1;omega);have j:=H (l.ad3 i.1 o.blk o.zX i.2);clear i o Ef A V T S m;go_wp2;go_ret;exact⟨rfl,M,R,k,mb,mt,_,j.1,O,O,oS,j.2⟩
def JF(c)(n:Nat)(f:0<n)(l:n<=1000000000000)(i:-9223372036854775808<=c)(j:c<=9223372036854775807):∃k,k<n/\∀w,Calls prog 51 #[I J c,I J n] w λe g=>e=Vr (I J k)/\g=w:=by
 have g:¬((n:Int)=0):=O
 have h:(0:Int)<n:=O
 by_cases d:c<0
 .obtain⟨k,b,e⟩:=akc d f;refine⟨k,b,λw=>?_⟩;have a:=H e;clear e;go_in;go_wp2;go_ret;exact⟨by rw[<-ag a];rfl,rfl⟩
 obtain⟨k,b,e⟩:=akb (Int.not_lt.1 d) f;refine⟨k,b,λw=>?_⟩;have a:=H e;clear e;go_in;go_wp2;go_ret;exact⟨by rw[<-ag a];rfl,rfl⟩
def BU(w:W8)(b:Nat)(j5 bv tv sv:V9)(es:List PE)(mb mt ms:List MB):Ending->W8->Prop:=λe w'=>e=Vr (Vb Bt)/\∃psv' bv' jG F1 es' mb' mt' ms',LW w' b psv' bv' jG F1 es' mb' mt' ms'/\(Z es)<=Z es'/\(Z es')<=Z es+1/\(Z mb')<=Z mb+2/\(Z mt')<=Z mt+2/\(Z ms')<=Z ms+2/\ak (jL b j5 bv tv sv) w w'
def aaw(w b c f j i g n p o a k s t u d q l)(h:LW w b c f j i g n p o)(E:s.size<=maxLen)(D:(Z g+1)*32<=140737488355328):Calls prog 32 #[Vp (P (C b 0 G)),Va #[I J 1,I J a,I J k,Y s,Y t,Y u,U d q l]] w (He s w b c f j i g n p o):=by have r:=(aZ (F (X w)) w).alloc L9 (Vc #[I J 1,I J a,I J k,Y s,Y t,Y u,U d q l] 26);have v:=h.ai r;clear h;go_in;go_wp2_with fail;refine(ahF _ b c f j i g n p o 1 a k s t u d q l v E D).mono ?_;rintro e N⟨rfl,h,m,z,L,M,x,y⟩;have B:=H x;clear x;have A:=H (((ak.refl (jL b c f j i) w).alloc _).step y (λx K=>.inl K));have x:=H z;clear y z v r;go_wp2;go_ret;exact⟨rfl,h,m,x,L,M,B,A⟩
def He.stp{s w n b a d l k m g j i e}(h:He s w b a d l k m g j i e n):BU w b a d l k m g j i e n:=by obtain⟨rfl,c,f,p,q,r,_,o⟩:=h;exact⟨rfl,c,d,l,k,f,g,j,i,p,q,r,O,O,O,o⟩
def aav(w b f i m l c x z y j a n s t u d q o)(h:LW w b f i m l c x z y)(hl:Z c<=1000000000000)(ha:-9223372036854775808<=a/\a<=9223372036854775807)(hk:j=2\/j=3)(k:∀e(p:PE) D,LW e b f i m l c x z y->jI p.s p.x p.y e D->Calls prog 50 #[Vp (P (C b 0 G)),Va #[I J j,I J a,I J n,Y s,Y t,Y u,U d q o],Va #[Vp (P (C p.x 0 G)),Vp (P (C p.y 0 G)),Y p.s]] e (AY e b f i m l c x z y)):Calls prog 32 #[Vp (P (C b 0 G)),Va #[I J j,I J a,I J n,Y s,Y t,Y u,U d q o]] w (BU w b f i m l c x z y):=by
 have Q:=(aZ (F (X w)) w).alloc L9 (Vc #[I J j,I J a,I J n,Y s,Y t,Y u,U d q o] 26);have e:=h.ai Q;have W:(Al w (Vc #[I J j,I J a,I J n,Y s,Y t,Y u,U d q o] 26)).heap[F (X w)]?=_:=aG w _;obtain⟨ap,A,rfl⟩:=aF e.row;have g:=e.blk;obtain⟨p0,N⟩:=aj g 0;have HA:=H k;have K:=H ((ak.refl (jL b (U ap (Z c) A) i m l) w).alloc (Vc #[I J j,I J a,I J n,Y s,Y t,Y u,U d q o] 26));have r:=H e;have oy:=h.lt;clear k h Q g e
 by_cases Q:Z c=0
 .have e:=wK Q;subst e;rcases hk with rfl|rfl
  all_goals
   go_in;go_wp2;go_ret;exact⟨rfl,_,_,_,_,_,_,_,_,r,O,O,O,O,O,K⟩
 obtain⟨k,v,e⟩:=JF a (Z c) O hl ha.1 ha.2;have M:=H e;obtain⟨D,h⟩:=(r.vy c[k] (aN v)).vy;obtain⟨g,_,hv,-,L,_,_,B⟩:=gu (f:=PE.cells) (λ_=>rfl) r.row k v;injection hv with R e2 S
 subst R S;have R:=B 0 oS;have S:=B 1 oS;have T:=B 2 oS;simp only[PE.cells,iy,aT,bx]at R S T;have HE:=H h;have Cp:(0:Int)<(Z c:Int):=O
 clear B e h;generalize c[k]=p at*;obtain⟨x0,h⟩:=aj W 0;obtain⟨x1,e⟩:=aj W 1;obtain⟨x2,B⟩:=aj W 2;obtain⟨x3,E⟩:=aj W 3;obtain⟨x4,V⟩:=aj W 4;obtain⟨x5,Rp⟩:=aj W 5;obtain⟨x6,Rq⟩:=aj W 6;clear W h e B E V Rp Rq L;rcases hk with rfl|rfl
 all_goals
  go_in;go_wp2_with fail;refine J3 16 Jj oK λW e=>?_
  simp only[DP,BC,By,vb];have B:Ce W (C b 0 G)=P (U (P (C g 0 G)) (Z c) A):=by rw[e];exact p0
  have V:=(gQ (λW:W8=>Ce W (C (F (X w)) 0 G)) e).trans x0;simp only[bt,aT]at V;have X1:Ce W (C (F (X w)) 1 G)=P (I J a):=by rw[e];exact x1
  have X2:Ce W (C (F (X w)) 2 G)=P (I J n):=by rw[e];exact x2
  have X3:Ce W (C (F (X w)) 3 G)=P (Y s):=by rw[e];exact x3
  have X4:Ce W (C (F (X w)) 4 G)=P (Y t):=by rw[e];exact x4
  have X5:Ce W (C (F (X w)) 5 G)=P (Y u):=by rw[e];exact x5
  have X6:Ce W (C (F (X w)) 6 G)=P (U d q o):=by rw[e];exact x6
  have Q0:Ce W (C g (k*3) G)=P (Vp (P (C p.x 0 G))):=by rw[e];exact R
  have Q1:Ce W (C g (k*3+1) G)=P (Vp (P (C p.y 0 G))):=by rw[e];exact S
  have Q2:Ce W (C g (k*3+2) G)=P (Y p.s):=by rw[e];exact T
  have L:Hid (LW W b (U (P (C g 0 G)) (Z c) A) i m l c x z y):=by rw[e];exact(r).ai (B9.drew)
  have h:Hid (jI p.s p.x p.y W D):=by rw[e];exact(HE).ai (B9.drew)
  have E:Hid (ak (jL b (U (P (C g 0 G)) (Z c) A) i m l) w W):=by rw[e];exact(K).drew
  clear e x0 x1 x2 x3 x4 x5 x6 R S T p0 N r HE K
  repeat still_step
  still_call (M _)
  repeat still_step
  refine wpStill_nil ?_;clear Q0 Q1 Q2 V X1 X2 X3 X4 X5 X6 B;go_wp2_with fail;refine(HA W p D L h).mono ?_;rintro e w1⟨rfl,N,jG,V,R,T,S,r,l1,l2,l3,W⟩;have K:=H r;have B:=H (E.trans W);clear r W;go_wp2;go_ret;exact⟨rfl,_,N,jG,V,c,R,T,S,K,bD _,O,l1,l2,l3,B⟩
end
section
open Go.RowKit Go.Maps
structure sx(o:qq):Prop where
 a:-9223372036854775808<=o.a/\o.a<=9223372036854775807
 b:-9223372036854775808<=o.b/\o.b<=9223372036854775807
 s:o.s.size<=maxLen
 t:o.t.size<=maxLen
 u:o.u.size<=maxLen
def qq.agg(o:qq):V9:=Va #[I J o.kd,I J o.a,I J o.b,Y o.s,Y o.t,Y o.u,U o.aC o.nt o.ct]
def vq(w0:W8)(o:qq):Prop:=∀(w:W8)(b:Nat)(j5 bv tv sv:V9)(es:List PE)(mb mt ms:List MB),Below (F (X w0)) w0 w->LW w b j5 bv tv sv es mb mt ms->Z es<=10000000->Z mb<=10000000->Z mt<=10000000->Z ms<=10000000 ->
 Calls prog 32 #[Vp (P (C b 0 G)),o.agg] w (BU w b j5 bv tv sv es mb mt ms)
def Tg:Prop:=∀(w:W8)(b:Nat)(j5 bv tv sv:V9)(es:List PE)(mb mt ms:List MB),LW w b j5 bv tv sv es mb mt ms->Z mb<=10000000->Z mt<=10000000->Z ms<=10000000->Calls prog 33 #[Vp (P (C b 1 G))] w (qv w)
variable {a b:Nat}
def adF{j:List Int}(b:a<Z j)(f):(j.take (a+1)).any f=((j.take a).any f||f j[a]):=by rw[jr b,List.any_append];simp only[Bv,List.any_nil,Bool.or_false]
structure D9(w0 w:W8)(b k:Nat)(j5 bv tv sv:V9)(es:List PE)(mb mt ms:List MB)(wr:W8):Prop where
 lw:LW wr b j5 bv tv sv es mb mt ms
 ai:Below (F (X w)) w wr
 base:Below (F (X w0)) w0 wr
 e:Z es<=k+2
 b:Z mb<=2*k+2
 t:Z mt<=2*k+2
 s:Z ms<=2*k+2
def qY(w0 w:W8)(b k:Nat)(wr:W8):Prop:=∃j5 bv tv sv es mb mt ms,D9 w0 w b k j5 bv tv sv es mb mt ms wr
variable {c d f:W8}
def qY.drawn{w0}(h:qY w0 c b a d)(n):qY w0 c b a (d.drewN n):=by obtain⟨k,w,j,i,wr,e,g,f,h⟩:=h;exact⟨k,w,j,i,wr,e,g,f,h.lw.ai (below_drewN B9 _),below_drewN h.ai _,below_drewN h.base _,h.e,h.b,h.t,h.s⟩
def qY.next{w0}(h:qY w0 c b a d):qY w0 c b (a+1) d:=by obtain⟨k,w,j,i,wr,e,g,f,h⟩:=h;exact⟨k,w,j,i,wr,e,g,f,h.lw,h.ai,h.base,by have:=h.e;omega,by have:=h.b;omega,by have:=h.t;omega,by have:=h.s;omega⟩
variable {e:Ending}
def D9.step{w0 k' k A v t i n r p}(h:D9 w0 c b a k A v t i n r p d)(K:F (X w0)<=F (X c))(l:BU d b k A v t i n r p e f)(D:F (X c)<=b)(E:Z i<=k'+1/\(Z n)<=2*k'/\(Z r)<=2*k'/\(Z p)<=2*k'):e=Vr (Vb Bt)/\qY w0 c b k' f:=by
 obtain⟨rfl,wr,g,y,u,j,o,s,q,B,_,_,_,_,_,z⟩:=l;have l:=h.ai.size;have w:∀x∈jL b k A v t,F (X c)<=x:=λx m=>by have:=(h.lw.MX x m).1;omega
 exact⟨rfl,wr,g,y,u,j,o,s,q,B,ib h.ai z l w,ib h.base z O (λx m=>by have:=w x m;omega),O,O,O,O⟩
def qY.still{w0}(h:qY w0 c b a d)(p:F (X w0)<=F (X c))(w:qv d e f):e=Vr (Vb Bt)/\qY w0 c b a f:=by obtain⟨wr,g,o,n,i,j,m,l,h⟩:=h;obtain⟨rfl,k⟩:=w;have w:=h.ai.size;exact⟨rfl,wr,g,o,n,i,j,m,l,h.lw.ai k,h.ai.trans (k.mono w),h.base.trans (k.mono O),h.e,h.b,h.t,h.s⟩
def akg(w0 w)(o:Below (F (X w0)) w0 w)(y a b s t u g z p sa d cap c W f)(h:BS w sa d c)(hl:d<=1048576)(R:∀j (hj:j<Z f),Ce w (C W j G)=P (I J f[j]))(sG:Z f<=100)(IK:W<F (X w))(hA:vq w0 ⟨y,a,b,s,t,u,g,z,p⟩) (hO:∀i,i<d->(c i).kd∈f->vq w0 (c i)) (E:Tg):Calls prog 15 #[Va #[I J y,I J a,I J b,Y s,Y t,Y u,U g z p],U sa d cap,U (P (C W 0 G)) (Z f) (Z f)] w (qv w):=by
 have V:=((aZ (F (X w)) w).alloc L9 (Vc #[I J y,I J a,I J b,Y s,Y t,Y u,U g z p] 26)).alloc oS (Vc #[U G 0 0,U G 0 0,U G 0 0,U G 0 0] 69);have e:LW (Al (Al w (Vc #[I J y,I J a,I J b,Y s,Y t,Y u,U g z p] 26)) (Vc #[U G 0 0,U G 0 0,U G 0 0,U G 0 0] 69)) (F (X w)+1) (U G 0 0) (U G 0 0) (U G 0 0) (U G 0 0) [] [] [] []:=by refine LW.start _ _ ?_;have:=aG (Al w (Vc #[I J y,I J a,I J b,Y s,Y t,Y u,U g z p] 26)) (Vc #[U G 0 0,U G 0 0,U G 0 0,U G 0 0] 69);rw[bL]at this;exact this
 have Q:(Al (Al w (Vc #[I J y,I J a,I J b,Y s,Y t,Y u,U g z p] 26)) (Vc #[U G 0 0,U G 0 0,U G 0 0,U G 0 0] 69)).heap[F (X w)]?=P (Vc #[I J y,I J a,I J b,Y s,Y t,Y u,U g z p] 26):=by rw[aW _ _ _ oS];exact aG w _
 have hS:=aaw (Al (Al w (Vc #[I J y,I J a,I J b,Y s,Y t,Y u,U g z p] 26)) (Vc #[U G 0 0,U G 0 0,U G 0 0,U G 0 0] 69)) (F (X w)+1) (U G 0 0) (U G 0 0) (U G 0 0) (U G 0 0) [] [] [] [] 0 0 Ik ⟨#[]⟩ ⟨#[]⟩ G 0 0 e afz oS;unfold Ik at hS;have q:D9 w0 w (F (X w)+1) 0 (U G 0 0) (U G 0 0) (U G 0 0) (U G 0 0) [] [] [] [] (Al (Al w (Vc #[I J y,I J a,I J b,Y s,Y t,Y u,U g z p] 26)) (Vc #[U G 0 0,U G 0 0,U G 0 0,U G 0 0] 69)):=⟨e,V,o.trans (V.mono o.size),oS,oS,oS,oS⟩;have zF:=H q;have m:=o.size;clear e q;go_in;go_wp2_with fail;refine hS.mono ?_;rintro e w1 S;obtain⟨rfl,_,q,x,-,-,A,r⟩:=S;have S:=afy;have v:Z q=1:=by simpa using A S
 have D:Below (F (X w)) w w1:=ib V r oT (by simp[Value.ownBlock]);have n:=o.trans (D.mono m);have k:=lC Q r (by simp[Value.ownBlock]);have T:=r.size;simp at T;obtain⟨ap1,cp1,rfl⟩:=aF x.row;have N:D9 w0 w (F (X w)+1) 0 (U ap1 (Z q) cp1) (U G 0 0) (U G 0 0) (U G 0 0) q [] [] [] w1:=⟨x,D,n,O,oS,oS,oS⟩;have B:=hA w1 (F (X w)+1) _ _ _ _ q [] [] [] n x O oS oS oS;unfold qq.agg at B;have l:=x.blk;rw[v]at l;obtain⟨p0,pf0⟩:=aj l 0;obtain⟨y0,yf0⟩:=aj k 0;obtain⟨y1,yf1⟩:=aj k 1;obtain⟨y2,yf2⟩:=aj k 2;obtain⟨y3,yf3⟩:=aj k 3;obtain⟨y4,yf4⟩:=aj k 4;obtain⟨y5,yf5⟩:=aj k 5;obtain⟨y6,yf6⟩:=aj k 6;have M:=H N;have K:=H B;have L:=H v;clear hS Q r V S N B x l k D n A v zF;go_wp2_with fail;refine(K).mono ?_;rintro e w2 l;obtain⟨rfl,v⟩:=M.step (k':=0) m l O ⟨by rw[ag L];exact bD _,bD _,bD _,bD _⟩;have n:=H v;clear l v M K L p0 pf0 y0 y1 y2 y3 y4 y5 y6 yf0 yf1 yf2 yf3 yf4 yf5 yf6 T;have HS:=H h;have HKS:=H R;have HO:=H hO;clear h R hO hA o;go_wp2
 go_loopg [9] d (λo i wr=>∃k:Nat,k<=d/\o=d-k/\i=I J k/\qY w0 w (F (X w)+1) k wr)
 exact⟨0,aI _,rfl,rfl,n⟩
 case round=>
  clear n;obtain⟨k,_,_,rfl,n⟩:=hrel
  by_cases A:k<d
  .obtain⟨_,_,rfl,_,_⟩:=HS.el k A;have Cp:(k:Int)<d:=O;have h:=H n;clear n;go_wp2
   go_loopg [10,11] (Z f) (λo v i R=>∃j:Nat,j<=Z f/\o=Z f-j/\i=I J j/\v=Vb ((f.take j).any (λx=>(c k).kd==x))/\qY w0 w (F (X w)+1) k R)
   exact⟨0,aI _,rfl,rfl,rfl,h⟩
   case round=>
    clear h;obtain⟨j,hj,R,rfl,rfl,v⟩:=hrel;obtain⟨i,T,tv,sv,N,V,Q,r,n⟩:=v;have v:=n.ai;have D:=n.lw;obtain⟨_,_,o,_,c0,c1,c2,c3,c4,c5,c6,_⟩:=(HS.ai v).el k A;injection o with o
    injection o with B M _
    subst B M;have hkz:=v.size
    by_cases B:j<Z f
    .have hkc:Ce wr (C W j G)=P (I J f[j]):=(v.cell (oU IK)).trans (HKS j B);have S:(j:Int)<Z f:=O;have M:=adF B (λx=>(c k).kd==x);have L:Hid (qY w0 w (F (X w)+1) k wr):=H ⟨i,T,tv,sv,N,V,Q,r,n⟩;have K:=H M;clear M n v D;generalize(f.take j).any (λx=>(c k).kd==x)=v0 at*;generalize f[j]=M at*
     cases v0
     .go_wp2;go_quiet(fail);go_wp2;go_roundg(Z f-(j+1));exact⟨j+1,O,rfl,oN,by rw[ag K];rfl,L.drawn _⟩;omega
     go_wp2;go_quiet(fail);go_wp2;go_roundg(Z f-(j+1));exact⟨j+1,O,rfl,oN,by rw[ag K];rfl,L.drawn _⟩;omega
    have L:j=Z f:=O;have hjn:¬((j:Int)<Z f):=O;have M:(f.take j).any (λx=>(c k).kd==x)=Bt->(c k).kd∈f:=λS=>by
     rw[L,vd,va]at S;obtain⟨x,K,S⟩:=S;rw[qV.1 S];exact K
    have K:=H M;have h:=H n;clear M n L R hj;generalize(f.take j).any (λx=>(c k).kd==x)=v0 at*
    cases v0
    .have L:=H (qY.next ⟨i,T,tv,sv,N,V,Q,r,h⟩);clear h v D K;go_wp2;go_roundg(d-(k+1));exact⟨k+1,O,rfl,oN,L⟩;omega
    have l:=ag HO k A (K rfl) wr (F (X w)+1) i T tv sv N V Q r h.base D (oF h.e) (oF h.b) (oF h.t) (oF h.s);unfold qq.agg at l;have M:=H l;clear l v D;go_wp2_with fail;refine(M).mono ?_;rintro e w3 l;obtain⟨rfl,D⟩:=h.step (k':=k+1) m l O ⟨by have:=h.e;omega,by have:=h.b;omega,by have:=h.t;omega,by have:=h.s;omega⟩;have L:=H D;obtain⟨R,bv3,Kh,sv3,es3,mb3,mt3,ms3,v⟩:=D;have D:=H (E w3 (F (X w)+1) R bv3 Kh sv3 es3 mb3 mt3 ms3 v.lw (oF v.b) (oF v.t) (oF v.s));clear l v M h c0 c1 c2 c3 c4 c5 c6 hkz;go_wp2_with fail;refine(D).mono ?_;rintro e l h;obtain⟨rfl,M⟩:=L.still m h;have v:=H M;clear h M L D;go_wp2;go_roundg(d-(k+1));exact⟨k+1,O,rfl,oN,v⟩;omega
  obtain⟨i,T,tv,sv,N,V,Q,r,n⟩:=n;have o:=H n.ai;clear n;go_wp2;go_ret;exact⟨rfl,o⟩
variable {a:MB}{b:W8}
def aio(h:pH b 185 (iN a.mark) a):Calls prog 54 #[a.agg] b (qv b):=by obtain⟨n,_,m,w,c,d⟩:=h.aK;have t:=h.dc;obtain⟨e,j,p⟩:=aF m;obtain⟨f,k,q⟩:=aF w;obtain⟨g,l,r⟩:=aF c;obtain⟨i,o,s⟩:=aF d;unfold MB.agg;rw[p]at m⊢;rw[q]at w⊢;rw[r]at c⊢;rw[s]at d⊢;exact amM b 0 a.mark e f g i n (n+1) (n+2) (n+64) j k l o m w c d O O O O O
def aim(h:pH b 5 (jE a.mark) a):Calls prog 52 #[a.agg] b (qv b):=by obtain⟨n,_,m,w,c,d⟩:=h.aK;have t:=h.dc;obtain⟨e,j,p⟩:=aF m;obtain⟨f,k,q⟩:=aF w;obtain⟨g,l,r⟩:=aF c;obtain⟨i,o,s⟩:=aF d;unfold MB.agg;rw[p]at m⊢;rw[q]at w⊢;rw[r]at c⊢;rw[s]at d⊢;exact amL b 0 a.mark e f g i n (n+1) (n+2) (n+64) j k l o m w c d O O O O O
def aip(h:pH b 9 (jO a.mark) a):Calls prog 53 #[a.agg] b (qv b):=by obtain⟨n,_,m,w,c,d⟩:=h.aK;have t:=h.dc;obtain⟨e,j,p⟩:=aF m;obtain⟨f,k,q⟩:=aF w;obtain⟨g,l,r⟩:=aF c;obtain⟨i,o,s⟩:=aF d;unfold MB.agg;rw[p]at m⊢;rw[q]at w⊢;rw[r]at c⊢;rw[s]at d⊢;exact amN b 0 a.mark e f g i n (n+1) (n+2) (n+64) j k l o m w c d O O O O O
def ai6:Tg:=λw b a c i g _ d f e h j k l=>
 ai5 w b a c i g d f e jE jO iN h.blk h.bs h.ts h.ss O O O (λ_ _ _ h=>aim h) (λ_ _ _ h=>aip h) (λ_ _ _ h=>aio h)
def amC(w0 o)(h:sx o)(l:o.kd=1):vq w0 o:=by
 intro w b d g v r j m p n _ k x y z A;obtain⟨_,a,f,s,t,u,c,q,i⟩:=o
 cases l
 exact(aaw w b d g v r j m p n a f s t u c q i k h.s O).mono λe o h=>h.stp
def amE(w0 o)(h:sx o)(x:o.kd=2):vq w0 o:=by
 intro w b d g q n r j l k _ v A B D E;obtain⟨_,a,f,s,t,u,c,m,i⟩:=o
 cases x
 refine aav w b d g q n r j l k 2 a f s t u c m i v O h.a (.inl rfl) λz p y o e=>?_
 refine(adN z b p.x p.y p.s y e a f s t u c m i).mono ?_;rintro e y⟨rfl,p⟩;exact⟨rfl,g,q,n,j,l,k,o.ai p,O,O,O,(ak.refl _ _).bC p⟩
def amH(w0 o)(h:sx o)(x:o.kd=3):vq w0 o:=by
 intro w b d f q n i j l k _ v A B D E;obtain⟨_,a,e,s,t,u,c,m,g⟩:=o
 cases x
 exact aav w b d f q n i j l k 3 a e s t u c m g v O h.a (.inr rfl) λz p y o r=>adP z b d f q n i j l k o p.x p.y p.s y r O a e s t u c m g
def QM(w b f j m l c y A z i a n s t u d q o)(h:LW w b f j m l c y A z)(hl:Z c<=1000000000000)(ha:-9223372036854775808<=a/\a<=9223372036854775807)(hk:i=4\/i=5\/i=7)(k:∀W(p:PE) E,Below (F (X w)) w W->LW W b f j m l c y A z->jI p.s p.x p.y W E->Calls prog 50 #[Vp (P (C b 0 G)),Va #[I J i,I J a,I J n,Y s,Y t,Y u,U d q o],Va #[Vp (P (C p.x 0 G)),Vp (P (C p.y 0 G)),Y p.s]] W (AY W b f j m l c y A z)):Calls prog 32 #[Vp (P (C b 0 G)),Va #[I J i,I J a,I J n,Y s,Y t,Y u,U d q o]] w (BU w b f j m l c y A z):=by
 have x:=(aZ (F (X w)) w).alloc L9 (Vc #[I J i,I J a,I J n,Y s,Y t,Y u,U d q o] 26);have e:=h.ai x;have W:(Al w (Vc #[I J i,I J a,I J n,Y s,Y t,Y u,U d q o] 26)).heap[F (X w)]?=_:=aG w _;obtain⟨ap,B,rfl⟩:=aF e.row;have g:=e.blk;obtain⟨p0,Q⟩:=aj g 0;have HA:=H k;have L:=H ((ak.refl (jL b (U ap (Z c) B) j m l) w).alloc (Vc #[I J i,I J a,I J n,Y s,Y t,Y u,U d q o] 26));have r:=H e;have v:=H x;have oy:=h.lt;clear k h x g e
 by_cases R:Z c=0
 .have e:=wK R;subst e;rcases hk with rfl|rfl|rfl
  all_goals
   go_in;go_wp2;go_ret;exact⟨rfl,_,_,_,_,_,_,_,_,r,O,O,O,O,O,L⟩
 obtain⟨k,x,e⟩:=JF a (Z c) O hl ha.1 ha.2;have N:=H e;obtain⟨E,h⟩:=(r.vy c[k] (aN x)).vy;obtain⟨g,_,hv,-,M,_,_,D⟩:=gu (f:=PE.cells) (λ_=>rfl) r.row k x;injection hv with S e2 T
 subst S T;have S:=D 0 oS;have T:=D 1 oS;have V:=D 2 oS;simp only[PE.cells,iy,aT,bx]at S T V;have HE:=H h;have Cp:(0:Int)<(Z c:Int):=O
 clear D e h;generalize c[k]=p at*;obtain⟨x0,h⟩:=aj W 0;obtain⟨x1,e⟩:=aj W 1;obtain⟨x2,D⟩:=aj W 2;obtain⟨x3,K⟩:=aj W 3;obtain⟨x4,xf4⟩:=aj W 4;obtain⟨x5,Rp⟩:=aj W 5;obtain⟨x6,Rq⟩:=aj W 6;clear W h e D K xf4 Rp Rq M;rcases hk with rfl|rfl|rfl
 all_goals
  go_in;go_wp2_with fail;refine J3 16 Jj oK λW e=>?_
  simp only[DP,BC,By,vb];have P0:Ce W (C b 0 G)=P (U (P (C g 0 G)) (Z c) B):=by rw[e];exact p0
  have X0:=(gQ (λW:W8=>Ce W (C (F (X w)) 0 G)) e).trans x0;simp only[bt,aT]at X0;have X1:Ce W (C (F (X w)) 1 G)=P (I J a):=by rw[e];exact x1
  have X2:Ce W (C (F (X w)) 2 G)=P (I J n):=by rw[e];exact x2
  have X3:Ce W (C (F (X w)) 3 G)=P (Y s):=by rw[e];exact x3
  have X4:Ce W (C (F (X w)) 4 G)=P (Y t):=by rw[e];exact x4
  have X5:Ce W (C (F (X w)) 5 G)=P (Y u):=by rw[e];exact x5
  have X6:Ce W (C (F (X w)) 6 G)=P (U d q o):=by rw[e];exact x6
  have Q0:Ce W (C g (k*3) G)=P (Vp (P (C p.x 0 G))):=by rw[e];exact S
  have Q1:Ce W (C g (k*3+1) G)=P (Vp (P (C p.y 0 G))):=by rw[e];exact T
  have Q2:Ce W (C g (k*3+2) G)=P (Y p.s):=by rw[e];exact V
  have h:Hid (Below (F (X w)) w W):=by rw[e];exact(v).drew
  have M:Hid (LW W b (U (P (C g 0 G)) (Z c) B) j m l c y A z):=by rw[e];exact(r).ai (B9.drew)
  have D:Hid (jI p.s p.x p.y W E):=by rw[e];exact(HE).ai (B9.drew)
  have K:Hid (ak (jL b (U (P (C g 0 G)) (Z c) B) j m l) w W):=by rw[e];exact(L).drew
  clear e x0 x1 x2 x3 x4 x5 x6 S T V p0 Q r HE L v
  repeat still_step
  still_call (N _)
  repeat still_step
  refine wpStill_nil ?_;clear Q0 Q1 Q2 X0 X1 X2 X3 X4 X5 X6 P0;go_wp2_with fail;refine(HA W p E h M D).mono ?_;rintro e w1⟨rfl,Q,jG,F1,S,V,T,v,l1,l2,l3,W⟩;have L:=H v;have r:=H (K.trans W);clear v W;go_wp2;go_ret;exact⟨rfl,_,Q,jG,F1,c,S,V,T,L,bD _,O,l1,l2,l3,r⟩
def aik(n:Nat)(f:n<=1000)(u):(Instr.makeSlice 91 (I J n) (I J n)).run prog u=.ok (U (some (C (F (X u)) 0 G)) n n) (u.alloc (Vc (madeCells #[I J 0,U G 0 0] (n*2)) 150)):=by obtain⟨e,d,a,b,c⟩:=info_parts OE;have h:=DX (P:=prog) u 91 150 e (Va #[I J 0,U G 0 0]) underlying91 d a J J (n:Int) (n:Int) O (DJ _) (by rw[c];omega) O;simpa[b,Value.cells]using h
def afw(w a b c d e f g h i j):(Op.equalIn 10000 88 (Va #[Y a,Y b,Y c,Y d,Y e]) (Va #[Y f,Y g,Y h,Y i,Y j])).run prog w=.ok (a.toList==f.toList&&(b.toList==g.toList&&(c.toList==h.toList&&(d.toList==i.toList&&e.toList==j.toList)))) w:=by
 have q:=underlying9;have p:=isAgg9;have r:=sizeOf9;rw[show(10000:Nat)=9999+1 from rfl,Op.equalIn];simp only[wV,run_underlying underlying88,wU];simp only[Std.Legacy.Range.forIn_eq_forIn_range',Std.Legacy.Range.size,Nat.sub_zero,Nat.add_sub_cancel,Nat.div_one,List.range'_succ,List.range'_zero,List.forIn_cons,List.forIn_nil]
 go_simp
 cases k:a.toList==f.toList<;>cases l:b.toList==g.toList<;>cases m:c.toList==h.toList<;>cases n:d.toList==i.toList<;>cases o:e.toList==j.toList<;>simp_all
variable {c:Th}
def afv{b}(h:fY c)(i:fY b):(c.p.toList==b.p.toList&&((bj c.ts 0).toList==(bj b.ts 0).toList&&((bj c.ts 1).toList==(bj b.ts 1).toList&&((bj c.ts 2).toList==(bj b.ts 2).toList&&(bj c.ts 3).toList==(bj b.ts 3).toList))))=decide (c=b):=by
 rw[oX];simp only[pE,kJ,qW]
 constructor
 .rintro⟨a,d,e,f,g⟩;refine ab0 h i ?_;unfold cP bP;rw[a,d,e,f,g]
 rintro rfl;exact⟨rfl,rfl,rfl,rfl,rfl⟩
def afG(n a b):madeCells #[a,b] (n*2)=nL (n*2) (λc=>if c%2=0 then a else b):=by
 apply DE;intro i
 by_cases h:i<n*2
 .rw[Ev h];rcases Td i with e|e<;>simp[madeCells,h,e]
 rw[zJ (by simp[madeCells];omega),zJ (by rw[xh];omega)]
def tO(a:List Pl)(k:Nat)(asked:Th)(rea:Nat->Nat×List Nat)(B:Nat->Bool)(i:Nat):Nat->Bool:=
 if(if decide ((a[i]?.getD default).s<k)||decide ((a[i]?.getD default).t=asked) then ea B i Bt else B) i then nP (if decide ((a[i]?.getD default).s<k)||decide ((a[i]?.getD default).t=asked) then ea B i Bt else B) (rea i).2 else(if decide ((a[i]?.getD default).s<k)||decide ((a[i]?.getD default).t=asked) then ea B i Bt else B)
def ji(a:List Pl)(k:Nat)(asked:Th)(rea:Nat->Nat×List Nat)(pre:List (Fin (Z a))):Nat->Bool:=pre.foldl (λB x=>tO a k asked rea B x.1) (λ_=>Bf)
def oC(n:Nat)(rea:Nat->Nat×List Nat)(B:Nat->Bool):List (Nat×List Nat):=(List.range n).map λi=>if B i then rea i else(0,[])
variable {a d e i j k l:Nat}
def OZ :∀(e:List Nat)(B:Nat->Bool),i∉e->nP B e i=B i
 | [],_,_=>rfl
 |x::r,B,h=>by
  have a:=OZ r (ea B x Bt) (λe=>h (bG _ e))
  show nP (ea B x Bt) r i=B i
  rw[a];unfold ea;rw[aB (λe=>h (by rw[e];exact bz))]
def JC(a:List Pl)(k:Nat)(asked:Th)(i:Nat):Bool:=decide ((a[i]?.getD default).s<k)||decide ((a[i]?.getD default).t=asked)
def mQ(a:List Pl)(k:Nat)(asked:Th)(B:Nat->Bool)(i:Nat):Nat->Bool:=if JC a k asked i then ea B i Bt else B
def FA(a k b c B i):tO a k b c B i=if mQ a k b B i i then nP (mQ a k b B i) (c i).2 else mQ a k b B i:=rfl
variable {b:List Pl}{f:Nat->Bool}
def Y5(h:j≠i):mQ b k c f i j=f j:=by
 unfold mQ
 split
 .unfold ea;rw[aB h]
 rfl
variable {g:Nat->Nat×List Nat}
def aiX(a:∀x∈(g i).2,x<i)(h:i<j):tO b k c g f i j=f j:=by
 rw[FA]
 split
 .rw[OZ _ _ (λx=>by have:=a j x;omega),Y5 O]
 exact Y5 O
def aiW(a:∀x∈(g i).2,x<i):tO b k c g f i i=mQ b k c f i i:=by
 rw[FA]
 split
 .rw[OZ _ _ (λx=>by have:=a i x;omega)]
 rfl
def Jo(a k b c d x):ji a k b c (d++[x])=tO a k b c (ji a k b c d) x.1:=by unfold ji;rw[LR];rfl
def pg(a:List Pl)(k:Nat)(asked:Th)(rea:Nat->Nat×List Nat):List (Fin (Z a))->Nat->Bool:=λpre=>(pre.foldl (λ(st:(Nat->Bool)×(Nat->Bool)) x=>(tO a k asked rea st.1 x.1,if mQ a k asked st.1 x.1 x.1 then ea st.2 x.1 Bt else st.2)) (λ_=>Bf,λ_=>Bf)).2
def UB(a:List Pl)(k:Nat)(b:Th)(c:Nat->Nat×List Nat):∀(d:List (Fin (Z a)))(B D:Nat->Bool),(d.foldl (λ(st:(Nat->Bool)×(Nat->Bool)) x=>(tO a k b c st.1 x.1,if mQ a k b st.1 x.1 x.1 then ea st.2 x.1 Bt else st.2)) (B,D)).1=d.foldl (λB x=>tO a k b c B x.1) B
 | [],_,_=>rfl
 |_::r,_,_=>UB a k b c r _ _
def UC(a k b d c x):pg a k b d (c++[x])=if mQ a k b (ji a k b d c) x.1 x.1 then ea (pg a k b d c) x.1 Bt else pg a k b d c:=by unfold pg;rw[LR];simp only[List.foldl_cons,List.foldl_nil,UB];rfl
def UA{k:Nat}{asked:Th}(c:∀i,i<Z b->∀x∈(g i).2,x<i):∀(d m:Nat),m+d=Z b->∀i,i<Z b->pg b k asked g (iI (Z b) m) i=(decide (m<=i)&&ji b k asked g (iI (Z b) m) i)
 | 0,m,hm,i,hi=>by
  rw[iy]at hm;subst hm;rw[H8];simp[pg];omega
 |d+1,m,hm,i,hi=>by
  have x:m<Z b:=O
  have f:=UA (k:=k) (asked:=asked) c d (m+1) O i hi;rw[H9 x,UC,Jo]
  by_cases e:i=m
  .subst e;rw[aiW (c i hi)]
   split
   .rename_i h;simp[ea,h]
   rename_i h;rw[f];simp at h;simp[h];intro d;omega
  have d:(if mQ b k asked (ji b k asked g (iI (Z b) (m+1))) m m=Bt then ea (pg b k asked g (iI (Z b) (m+1))) m Bt else pg b k asked g (iI (Z b) (m+1))) i=pg b k asked g (iI (Z b) (m+1)) i:=by
   split
   .unfold ea;rw[aB e]
   rfl
  rw[d,f]
  by_cases h:m+1<=i
  .rw[aiX (c m x) O];have:m<=i:=O
   simp[h,this]
  have a:¬m<=i:=O
  simp[h,a]
def CY(Dn:Nat->Bool)(rea:Nat->Nat×List Nat)(V:Nat->V9)(c:Nat):V9:=
 if Dn (c/2)=Bt then(if c%2=0 then I J ((rea (c/2)).1:Nat) else V (c/2)) else(if c%2=0 then I J 0 else U G 0 0)
def akU{V v}(c):(if c=a*2+1 then v else if c=a*2 then I J ((g a).1:Nat) else CY f g V c)=CY (ea f a Bt) g (λi=>if i=a then v else V i) c:=by
 unfold CY ea
 by_cases q:c=a*2+1
 .have e:c/2=a:=O
  have b:¬c%2=0:=O
  rw[aD q,aD e,aD rfl,aB b];simp[e]
 rw[aB q]
 by_cases d:c=a*2
 .have e:c/2=a:=O
  have b:c%2=0:=O
  rw[aD d,aD e,aD rfl,aD b,e]
 rw[aB d];have i:c/2≠a:=O
 simp only[aB i]
structure yw(w:W8)(ar:O8)(cr:Nat)(rs:List PR)(asked:Th)(kk:Nat)(ao:O8)(co bo b9 BY D:Nat)(a:List Pl)(W:W8):Prop where
 y4:W.heap[F (X w)]?=P (Vc #[U ar (Z rs) cr] 75)
 y7:TV W (F (X w)+1) asked
 y8:W.heap[F (X w)+1+1]?=P (Vc #[I J 0,U G 0 0] 93)
 y9:W.heap[b9]?=P (Vc #[I J (kk:Nat)] 3)
 y10:W.heap[BY]?=P (Vc #[U ao (Z a) co] 141)
 Ks:W.heap[D+1]?=P (Vc #[U (P (C D 0 G)) (Z a) (Z a)] 91)
 AW:W.heap[D+1+1+1]?=P (Vc #[U (P (C (D+1+1) 0 G)) (Z a) (Z a)] 143)
 ro:Ow W bo 148 7 (U ao (Z a) co) (Z a) (a.flatMap gy)
 k:Below (F (X w)) w W
 l9:F (X w)+1+1<b9
 CH:b9<BY
 lD:BY<D
 lo:∀g,(U ao (Z a) co).ownBlock=P g->g<D
 lb:F (X w)<=bo
variable {q:List PR}{m n:O8}{h o p:W8}
def yw.xQ(w:yw h m a q c e n i j l d k b o)(D:∀f,f<=k+1+1+1->f≠k->f≠k+1+1->p.heap[f]?=o.heap[f]?)(r:Below (F (X h)) h p):yw h m a q c e n i j l d k b p:=by have s:=w.l9;have f:=w.CH;have t:=w.lD;exact⟨(D _ O O O).trans w.y4,(D _ O O O).trans w.y7,(D _ O O O).trans w.y8,(D _ O O O).trans w.y9,(D _ O O O).trans w.y10,(D _ O O O).trans w.Ks,(D _ O O O).trans w.AW,gC w.ro (λg W=>D g (oF (w.lo g W)) (oF (w.lo g W)) (oF (w.lo g W))),r,s,f,t,w.lo,w.lb⟩
def yw.ai(w:yw h m a q c d n l j e i k b o)(g:Below (F (X o)) o p):yw h m a q c d n l j e i k b p:=
 w.xQ (λf D _ _=>g.block f (oF ((aM.1 w.AW).1))) (w.k.trans (g.mono w.k.size))
def D3(D i:Nat):Prop:=i=D\/i=D+1+1
structure kP(w:W8)(ar:O8)(cr:Nat)(rs:List PR)(asked:Th)(kk:Nat)(ao:O8)(co bo b9 BY D:Nat)(a:List Pl)(rea:Nat->Nat×List Nat)(w1:W8)(B Dn:Nat->Bool)(W:W8):Prop where
 box:yw w ar cr rs asked kk ao co bo b9 BY D a W
 kp:bU (D3 D) w1 W
 vS:gd W (D+1+1) 4 (Z a) (λi=>Vb (B i))
 C0:∃V:Nat->V9,gd W D 150 (Z a*2) (CY Dn rea V)/\∀i,Dn i=Bt->Ow W (F (X w1)) 3 1 (V i) (rea i).2.length (jk (rea i).2)
 lt:D+1+1+1<F (X w1)
def kP.grown{x B r}(w:kP h m a x c d n e i j k l b g o B f p){row}(v:p.grownBy r row)(q:∀s,row=P s->F (X o)<=s/\∃W,p.heap[s]?=P W/\W.isCells=Bf):kP h m a x c d n e i j k l b g o B f r:=by
 have D:=w.lt;have A:=w.kp.size;have K:=w.box.k.size;have W:∀s,s<F (X o)->r.heap[s]?=p.heap[s]?:=λs u=>v.block s O (λt=>by have:=(q s t.symm).1;omega)
 have L:=w.box.l9;have E:=w.box.CH;have M:=w.box.lD;obtain⟨V,y,z⟩:=w.C0;exact⟨w.box.xQ (λs u _ _=>W s O) ⟨v.os.trans w.box.k.os,v.tape.trans w.box.k.tape,v.output.trans w.box.k.output,bf w.box.k.size v.size,λs u=>(W s O).trans (w.box.k.block s u)⟩,w.kp.grown v (λs t=>.inl (q s t).1),w.vS.block (W _ O),⟨V,y.block (W _ O),λs u=>Zp (z s u) v (λs t=>(q s t).2)⟩,D⟩
def PV(w:W8)(b:Nat)(p:Pl):Prop:=w.heap[b]?=P (Vc (gy p).toArray 148)
variable {r:Pl}
def PV.grown{B row}(A:PV h a r)(b:h.grownBy B row)(c:∀i,row=P i->∃o,h.heap[i]?=P o/\o.isCells=Bf):PV B a r:=Uc A b c
def PV.lt(w:PV h a r):a<F (X h):=(aM.1 w).1
variable {f g h q:Nat}{b c s:W8}
def PV.ai1{p}(h:PV b a p):(oO (Vp (P (C a 0 G)))).run prog b=.ok (Va #[Y p.t.p,Y (bj p.t.ts 0),Y (bj p.t.ts 1),Y (bj p.t.ts 2),Y (bj p.t.ts 3)]) b:=by
 have w:=(aj h 0).1;have c:=(aj h 1).1;have d:=(aj h 2).1;have e:=(aj h 3).1;have f:=(aj h 4).1;simp only[gy,bt,aT,bx]at w c d e f;unfold oO
 go_simp
structure qo(D:Nat)(W wr:W8):Prop where
 size:F (X W)<=F (X wr)
 block:∀i,i<F (X W)->i≠D->i≠D+1+1->wr.heap[i]?=W.heap[i]?
def qo.refl(D W):qo D W W:=⟨bD _,λ_ _ _ _=>rfl⟩
def qo.ai(h:qo a c p)(k:Below (F (X p)) p b):qo a c b:=⟨bf h.size k.size,λi D W d=>(k.block i (iz D h.size)).trans (h.block i D W d)⟩
def qo.set{D W wr}(h:qo D W wr){b j}(d:b=D\/b=D+1+1)(v):qo D W (Sc wr (C b j G) v):=⟨by simpa using h.size,λi f a c=>(cx _ _ _ _ (by rcases d with e|e<;>simp[e]<;>assumption)).trans (h.block i f a c)⟩
variable {d:List PR}{e:List Pl}{k l:Nat->Bool}{m:Nat->Nat×List Nat}{r:O8}{o:Th}
def kP.ai(t:kP b n a d o f r q g h i j e m c k l p)(B:Below (F (X p)) p s):kP b n a d o f r q g h i j e m c k l s:=by obtain⟨V,x,W⟩:=t.C0;exact⟨t.box.ai B,t.kp.trans (bU.bC B),t.vS.ai B,⟨V,x.ai B,λD w=>aQ (W D w) B (λu v=>((W D w).lt u v).2)⟩,t.lt⟩
def kP.tM{x}(u:kP b r a d o g n h q i f j e m x k l c)(p):kP b r a d o g n h q i f j e m x (ea k p Bt) l (Sc c (C (j+1+1) p G) (Vb Bt)):=by
 obtain⟨V,y,t⟩:=u.C0;have W:=u.lt;have A:=u.box.l9;have z:=u.box.CH;have E:=u.box.lD;have s:∀D,D≠j+1+1->(Sc c (C (j+1+1) p G) (Vb Bt)).heap[D]?=c.heap[D]?:=λD w=>cx _ _ _ _ (oU w)
 refine⟨u.box.xQ (λD _ _ w=>s D w) (u.box.k.setCell (by show _<=j+1+1;omega) _),u.kp.setCell (.inr (.inr rfl)) _,(u.vS.set p (Vb Bt)).eq (λD _=>?_),⟨V,y.block (s j O),λD w=>gC (t D w) (λv B=>s v (oF (((t D w).lt v B).1)))⟩,W⟩;unfold ea
 by_cases B:D=p
 .rw[aD B,aD B]
 rw[aB B,aB B]
def kP.put{w r x E f A q u t s l D b d n B o W}(h:kP w r x E f A q u t s l D b d n B o W)(i)(L:i<Z b){v}(m:Ow W (F (X n)) 3 1 v (d i).2.length (jk (d i).2)):kP w r x E f A q u t s l D b d n B (ea o i Bt) (Sc (Sc W (C D (i*2) G) (I J ((d i).1:Nat))) (C D (i*2+1) G) v)/\Ow (Sc (Sc W (C D (i*2) G) (I J ((d i).1:Nat))) (C D (i*2+1) G) v) (F (X n)) 3 1 v (d i).2.length (jk (d i).2)/\Ce (Sc (Sc W (C D (i*2) G) (I J ((d i).1:Nat))) (C D (i*2+1) G) v) (C D (i*2+1) G)=P v:=by
 obtain⟨V,y,z⟩:=h.C0;have p:=h.lt;have M:=h.box.l9;have K:=h.box.CH;have N:=h.box.lD;have k:∀j,j≠D->(Sc (Sc W (C D (i*2) G) (I J ((d i).1:Nat))) (C D (i*2+1) G) v).heap[j]?=W.heap[j]?:=λj c=>(cx _ _ _ _ (oU c)).trans (cx _ _ _ _ (oU c))
 refine⟨⟨h.box.xQ (λj _ c _=>k j c) ((h.box.k.setCell (by show _<=D;omega) _).setCell (by show _<=D;omega) _),(h.kp.setCell (.inr (.inl rfl)) _).setCell (.inr (.inl rfl)) _,h.vS.block (k _ O),⟨λj=>if j=i then v else V j,((y.set (i*2) _).set (i*2+1) v).eq (λc _=>akU c),λj a=>?_⟩,p⟩,gC m (λg e=>k g (oF ((m.lt g e).1))),?_⟩
 rotate_left
 .have:=((y.set (i*2) (I J ((d i).1:Nat))).set (i*2+1) v).cell (i:=i*2+1) O;rw[this,aD rfl]
 by_cases e:j=i
 .subst e;simp only[aD];exact gC m (λg e=>k g (oF ((m.lt g e).1)))
 simp only[aB e];have c:o j=true:=by unfold ea at a;rwa [aB e]at a
 exact gC (z j c) (λg e=>k g (oF (((z j c).lt g e).1)))
def kP.lE{x B}(u:kP b r a d o f n g h q i j e m c k l p)(wr:kP b r a d o f n g h q i j e m c x B s)(W:qo j p s):KeepsFrom (F (X c)) p s/\bU (D3 j) p s:=by have z:=u.lt;refine⟨⟨W.size,λD t v w _=>(W.block D (aM.1 w).1 O O).trans w⟩,⟨wr.box.k.os.trans u.box.k.os.symm,wr.box.k.tape.trans u.box.k.tape.symm,wr.box.k.output.trans u.box.k.output.symm,W.size,λD t w v _=>(W.block D (aM.1 w).1 (λy=>v (.inl y)) (λy=>v (.inr y))).trans w⟩⟩
def Ps{α β:Type}(f:α->β){l:List α}(h:(l.map f).Nodup):l.Nodup:=by unfold List.Nodup at*;rw[wO]at h;exact h.imp λh e=>h (by rw[e])
def U8{α:Type}{f:α->V8}(a:∀x,(f x).length=2):∀l:List α,(l.flatMap f).length=Z l*2
 | []=>rfl
 |x::r=>by rw[lY,br,a,U8 a r,ff];omega
def ZY(f:Nat->V9):∀n:Nat,(List.range (n*2)).map f=(List.range n).flatMap λi=>[f (i*2),f (i*2+1)]
 | 0=>rfl
 |n+1=>by
  rw[show(n+1)*2=n*2+1+1 by omega,L1,L1,L1,oc,<-ZY f n];simp
def kP.CP(D:kP b n a d o f r g h i j q e m c k l p)(t:Z e<=maxLen):∃v,Z v=Z e/\oh p q (U (P (C q 0 G)) (Z e) (Z e)) v/\v.map gw=(List.range (Z e)).map λv=>if l v then m v else(0,[]):=by
 obtain⟨V,w,W⟩:=D.C0;have B:=D.lt;have u:((List.range (Z e)).map λv=>if l v then(⟨(m v).1,(m v).2,V v⟩:ND) else ⟨0,[],U G 0 0⟩).length=Z e:=oS
 refine⟨(List.range (Z e)).map λv=>if l v then ⟨(m v).1,(m v).2,V v⟩ else ⟨0,[],U G 0 0⟩,u,⟨?_,λx s=>?_⟩,?_⟩
 .rw[u];refine⟨?_,.inr ⟨q,Z e,_,rfl,bD _,w,bD _,t,by rw[xh],?_⟩⟩
  .rw[U8 Jk,u]
  unfold nL;rw[j7 oS,yl]
  show(List.range (Z e*2)).map _=_
  rw[ZY]
  congr 1
  funext v
  unfold CY;rw[show v*2/2=v by omega,show(v*2+1)/2=v by omega,show v*2%2=0 by omega,show(v*2+1)%2=1 by omega]
  cases l v<;>rfl
 .obtain⟨v,_,rfl⟩:=aU.1 s
  cases x:l v with
  |true=>exact aX (W v x) O
  |false=>exact dm _ _ _ _
 rw[km];apply uh;intro v _;simp only[Function.comp]
 cases l v<;>rfl
section
open Go.RowKit Go.Maps
attribute [local go_sem ↓] pB qa p9 pY
attribute [local go_sem] Oper.semAt_some
attribute [local go_sem] sT sR
structure zU(ps:P9)(S:B8->Nat)(rs:List PR)(K:List (Th×Nat))(a:List Pl)(rea:Nat->Nat×List Nat):Prop where
 FF:a.Perm (K.map (mR S))
 vP:∀(i:Nat)(h:i<Z a),yt (iB a[i] a 0) rs a[i].t (rea i).1 (rea i).2
 len:∀(i:Nat),i<Z a->(rea i).2.length<=3
 dS:∀(i:Nat),i<Z a->∀x∈(rea i).2,x<i
def aco(w:W8)(k:Nat)(ns:List (Nat×List Nat))(e:Ending)(w':W8):Prop:=
 ∃(out:List ND)(a:O8)(c:Nat),e=Vr (Va #[I J (k:Nat),U a (Z out) c])/\oh w' (F (X w)) (U a (Z out) c) out/\out.map gw=ns/\Below (F (X w)) w w'
def aod(ps w base tb n kb ar cr rs S K d)(f:List Pl->Nat->Nat×List Nat)(hr:gi w base (U ar (Z rs) cr) rs)(ht:dt prog 9 w tb n (bq ps S))(hm:bQ w kb K)(hg:∀r∈rs,kD ps r)(hK:∀p∈K,il ps p.1)(hl:Z K<=50)(hS:∀p,(bE ps p).isSome=Bt->S p<=1000000)(ku:fY d)(hSa:S d.1<=1000000)(vI:(K.map λp=>ep p.1).Nodup)(VP:∀a,a.Perm (K.map (mR S))->(a.Pairwise λp q=>jN p q=Bt)->zU ps S rs K a (f a)):Calls prog 42 #[U ar (Z rs) cr,.map (P tb),.map (P kb),cP d] w λe w'=>∃a,a.Perm (K.map (mR S))/\(a.Pairwise λp q=>jN p q=Bt)/\aco w (kj ps S K d) (lT (ji a (kj ps S K d) d (f a) (iI (Z a) 0)) (oC (Z a) (f a) (ji a (kj ps S K d) d (f a) (iI (Z a) 0))) 0 (λ_=>0) []) e w':=by
 have pn:=ht.lt;have pk:=hm.lt;have HR:=H hr;have HT:=H ht;have HM:=H hm;have HG:=H hg;have HK:=H hK;have Bn:=H hS;have pC:=H vI;have Ga:=H VP;have Aj:=ej hr.row;unfold maxLen at Aj;obtain⟨ct,NI⟩:∃ct,ct=(bP d).toArray:=⟨_,rfl⟩;have KK:=H NI;unfold cP;rw[<-NI];clear hr ht hm hg hK hS vI VP NI;refine callsIn_wide.1 (callsIn_of_wp_marks (F:=Fence.wide) (n:=5) func42 rfl trivial (wpIn_wide.2 ?_) rfl);simp only[ntmps42,G1,ff,kB,Nat.reduceAdd,Nat.reduceSub,GG,GH,GZ,GJ,ql,jA];go_upto_region 1 with fail;generalize vK:World.alloc (World.alloc (World.alloc w _) _) _=w0;have k0:Below w.heap.size w w0:=by rw[<-vK];exact(((aZ w.heap.size w).alloc L9 _).alloc oS _).alloc oW _
 have x4:w0.heap[w.heap.size]?=P (Vc #[U ar (Z rs) cr] 75):=by rw[<-vK,aW _ _ _ oW,aW _ _ _ oS];exact aG w _
 have x7:TV w0 (w.heap.size+1) d:=by
  rw[<-vK,ag KK]
  show _=_
  rw[aW _ _ _ oS];have:=aG (Al w (Vc #[U ar (Z rs) cr] 75)) (Vc (bP d).toArray 88);rw[bL]at this;exact this
 have x8:w0.heap[w.heap.size+1+1]?=P (Vc #[I J 0,U G 0 0] 93):=by rw[<-vK];have:=aG (Al (Al w (Vc #[U ar (Z rs) cr] 75)) (Vc ct 88)) (Vc #[I J 0,U G 0 0] 93);rw[bL,bL]at this;exact this
 have s0:w0.heap.size=w.heap.size+1+1+1:=by rw[<-vK];simp
 clear vK;have t3:=x7.load;have HW:=H (aob w0 tb n kb ps S K d (HT.block (k0.block tb pn)) (HM.block (k0.block kb pk)) ku hSa);generalize WA:kj ps S K d=t at*;have Bc:=H WA;clear WA;have mW:=H k0;have HX4:=H x4;have HX7:=H x7;have HX8:=H x8;have oa:=H s0;clear k0 x4 x7 x8 s0;go_upto_region 2 with(go_at_call 66;refine(HW).mono ?_;rintro en wa⟨rfl,VZ⟩;have sk:=H VZ;clear VZ);generalize E8:World.alloc wa _=wb;have Aw:Below w0.heap.size w0 wb:=by rw[<-E8];exact(sk).alloc sk.size _
 have x9:wb.heap[wa.heap.size]?=P (Vc #[I J (t:Nat)] 3):=by rw[<-E8];exact aG wa _
 have sb1:wb.heap.size=wa.heap.size+1:=by rw[<-E8];simp
 have XK:=sk.size;clear E8 t3;have kw:Below w.heap.size w wb:=mW.trans (Aw.mono mW.size);have HO:=H (ajx wb kb tb n ps S K (HM.block (kw.block kb pk)) (HT.block (kw.block tb pn)) O (λp hp=>ab1 (HK p hp)) (λp hp=>⟨by have:=(HK p hp).w.pd.le;omega,by rw[(HK p hp).bn];rfl⟩) pC);have wI:=H Aw;have HX9:=H x9;have wJ:=H (And.intro sb1 XK);clear Aw x9 sb1 XK kw;go_upto_region 3 with(go_at_call 67;refine(HO).mono ?_;rintro en wc⟨a,R,T,rfl,Cw,Xh,ET,V0⟩;have pD:=H Cw;have Dx:=H Xh;have Bm:=H ET;have KD:=H V0;clear Cw Xh ET V0);have hOl:Z a<=50:=by rw[(ag pD).length_eq,bF];exact hl
 generalize E9:World.alloc wc _=m;have kd:Below wb.heap.size wb m:=by rw[<-E9];exact(KD).alloc KD.size _
 have Rn:m.heap[wc.heap.size]?=P (Vc #[U R (Z a) T] 141):=by rw[<-E9];exact aG wc _
 have ro:m.ownsRow wb.heap.size 148 7 (U R (Z a) T) (Z a) (a.flatMap gy):=by rw[<-E9];exact(Bm).alloc _
 have sd:m.heap.size=wc.heap.size+1:=by rw[<-E9];simp
 have XL:=KD.size;have ed:=(aj Rn 0).1;simp only[bt,aT]at ed;have KS:=H kd;have SP:=H Rn;have Gy:=H ro;have Lc:=H (And.intro sd XL);have agN:=aik (Z a) O;have agO:=OW (Z a) O;clear E9 kd Rn ro sd XL;go_upto_region 4 with fail;have aen:((m.alloc (Vc (madeCells #[I J 0,U G 0 0] (Z a*2)) 150)).alloc (Vc #[U (P (C m.heap.size 0 G)) (Z a) (Z a)] 91)).cell? (C wc.heap.size 0 G)=P (U R (Z a) T):=by have:=ag Lc;rw[j8 (w:=m) (by rw[aW _ _ wc.heap.size oW,aW _ _ wc.heap.size O])];exact ed
 clear ed;go_upto_region 5 with fail;generalize Ar:World.alloc (World.alloc (World.alloc (World.alloc m _) _) _) _=we;have ke:Below m.heap.size m we:=by rw[<-Ar];exact((((aZ m.heap.size m).alloc L9 _).alloc oS _).alloc oW _).alloc oW _
 have f1:gd we m.heap.size 150 (Z a*2) (λc=>if c%2=0 then I J 0 else U G 0 0):=by
  show _=_
  rw[<-Ar,aW _ _ _ oW,aW _ _ _ oW,aW _ _ _ oS,<-afG];exact aG m _
 have f2:we.heap[m.heap.size+1]?=P (Vc #[U (P (C m.heap.size 0 G)) (Z a) (Z a)] 91):=by rw[<-Ar,aW _ _ _ oW,aW _ _ _ oS];have:=aG (m.alloc (Vc (madeCells #[I J 0,U G 0 0] (Z a*2)) 150)) (Vc #[U (P (C m.heap.size 0 G)) (Z a) (Z a)] 91);simpa only[bL]using this
 have f3:gd we (m.heap.size+1+1) 4 (Z a) (λ_=>Vb Bf):=by
  show _=_
  rw[<-Ar,aW _ _ _ oS,<-Im];have:=aG ((m.alloc (Vc (madeCells #[I J 0,U G 0 0] (Z a*2)) 150)).alloc (Vc #[U (P (C m.heap.size 0 G)) (Z a) (Z a)] 91)) (Vc (madeCells #[Vb Bf] (Z a)) 4);simpa only[bL]using this
 have f4:we.heap[m.heap.size+1+1+1]?=P (Vc #[U (P (C (m.heap.size+1+1) 0 G)) (Z a) (Z a)] 143):=by rw[<-Ar];have:=aG (((m.alloc (Vc (madeCells #[I J 0,U G 0 0] (Z a*2)) 150)).alloc (Vc #[U (P (C m.heap.size 0 G)) (Z a) (Z a)] 91)).alloc (Vc (madeCells #[Vb Bf] (Z a)) 4)) (Vc #[U (P (C (m.heap.size+1+1) 0 G)) (Z a) (Z a)] 143);simpa only[bL]using this
 have se:we.heap.size=m.heap.size+1+1+1+1:=by rw[<-Ar];simp
 clear Ar aen agN agO;have Nw:=ag Lc;have T4:=(aj ((ke.block _ O).trans SP) 0).1;simp only[bt,aT]at T4;have HF:=H (And.intro f1 (And.intro f2 (And.intro f3 (And.intro f4 se))));have Sh:=H ke;clear f1 f2 f3 f4 se ke Nw;have Gd:=H (ae0 we R (Z a) T);go_wp2_with(go_at_call 68;refine(Gd).mono ?_;rintro en wf⟨rfl,hwf⟩);subst hwf;generalize kW:World.alloc we _=w1;have hF:=ag HF;have Nw:=ag Lc;have hSB:=ag wJ;have yM:=ag oa;have k1:Below we.heap.size we w1:=by rw[<-kW];exact(aZ we.heap.size we).alloc L9 _
 have s1:w1.heap.size=m.heap.size+1+1+1+1+1:=by rw[<-kW,bL,hF.2.2.2.2]
 have x31:w1.heap[we.heap.size]?=P (Vc #[U R (Z a) T] 141):=by rw[<-kW];exact aG we _
 have I6:Below m.heap.size m w1:=Sh.trans (k1.mono Sh.size);have Aw:Below wb.heap.size wb w1:=KS.trans (I6.mono KS.size);have Fm:Below w0.heap.size w0 w1:=wI.trans (Aw.mono wI.size);have Om:Ow w1 wb.heap.size 148 7 (U R (Z a) T) (Z a) (a.flatMap gy):=aQ Gy I6 (λg e=>(Gy.lt g e).2);have ah9:=KS.size;have ah8:=wI.size;have ox:yw w ar cr rs d t R T wb.heap.size wa.heap.size wc.heap.size m.heap.size a w1:=
  ⟨(Fm.block _ O).trans HX4,(Fm.block _ O).trans HX7,(Fm.block _ O).trans HX8,(Aw.block _ O).trans HX9,(I6.block _ O).trans SP,(k1.block _ O).trans hF.2.1,(k1.block _ O).trans hF.2.2.2.1,Om,mW.trans (Fm.mono mW.size),O,O,O,λg e=>(Gy.lt g e).2,O⟩
 have IX:kP w ar cr rs d t R T wb.heap.size wa.heap.size wc.heap.size m.heap.size a (f a) w1 (ji a t d (f a) []) (pg a t d (f a) []) w1:=
  ⟨ox,bU.refl _ _,(hF.2.2.1).block (k1.block _ O),⟨λ_=>U G 0 0,(hF.1.block (k1.block _ O)).eq (λi hi=>by simp[CY,pg]),λi h=>by cases h⟩,O⟩
 have vD:=λn=>ae1 (D3 m.heap.size) n w1 we.heap.size wb.heap.size R T a x31 Om (by unfold D3;omega) (λg e=>by have:=(Gy.lt g e).2;unfold D3;omega) O
 have Gv:=H IX;have SG:=H s1;clear kW hF Nw hSB yM k1 x31 I6 Aw Fm Om ah9 ah8 ox T4 IX;refine(wpIn_wide (n:=5)).1 ?_;refine wpIn_rangeFunc_ownH (α:=Fin (Z a)) rfl O (gf:=107) (lb:=#[Vp (P (C we.heap.size 0 G))]) rfl trivial (enters_of func107 oK rfl)
  (vD _) (λh1 h2=>bU.trans h1 h2) (λW l o k _ hl j b=>I7 W l o k hl j b) B9 (λ_=>rfl)
  (λ(L:List (Fin (Z a)))(W:W8)=>kP w ar cr rs d t R T wb.heap.size wa.heap.size wc.heap.size m.heap.size a (f a) w1 (ji a t d (f a) L) (pg a t d (f a) L) W)
  (λ(_:Code)(_:List (Fin (Z a)))(_:W8)=>False)
  (λL A B s hs hg hr=>hs.grown hg (λi e=>hr i e))
  (λc L A B s hs hg hr=>hs)
  Gv
  (λ(x:Fin (Z a))(a':Act)(W:W8)=>∃Bx,w1.heap.size<=Bx/\PV W Bx a[x]/\a'={ tmps:=List.toArray ((U ar (Z rs) cr)::(Value.map (P tb))::(Value.map (P kb))::(Va ct)::(Vp (P (C w.heap.size 0 G)))::undef::undef::(Vp (P (C (w.heap.size+1) 0 G)))::(Vp (P (C (w.heap.size+1+1) 0 G)))::(Vp (P (C wa.heap.size 0 G)))::(Vp (P (C wc.heap.size 0 G)))::(Vp (P (C (m.heap.size+1) 0 G)))::(Vp (P (C (m.heap.size+1+1+1) 0 G)))::(I J (x.1:Nat))::(Vp (P (C Bx 0 G)))::undef::undef::(Value.map (P tb))::(Value.map (P kb))::(cP d)::(I J (t:Nat))::(Value.map (P kb))::(Value.map (P tb))::(U R (Z a) T)::(U R (Z a) T)::(I J (Z a:Nat))::(U (P (C m.heap.size 0 G)) (Z a) (Z a))::(U R (Z a) T)::(I J (Z a:Nat))::(U (P (C (m.heap.size+1+1) 0 G)) (Z a) (Z a))::(U R (Z a) T)::(Value.func (.func 107) #[] #[Vp (P (C we.heap.size 0 G))])::(I J (x.1:Nat))::(Va #[Y a[x].t.p,Y (bj a[x].t.ts 0),Y (bj a[x].t.ts 1),Y (bj a[x].t.ts 2),Y (bj a[x].t.ts 3),I J a[x].s,I J a[x].h])::List.replicate 44 undef),defers:=[] })
  (λx a' _ A B s hs hg hr=>let ⟨Bx,h1,h2,h3⟩:=hs;⟨Bx,h1,h2.grown hg (λi e=>(hr i e).2),h3⟩)
  ?assign ?body ?done (λD c L W _ _ h=>h.elim)
 case assign=>
  intro l L x W k N b;have j:=H b;have HI:=H N;have hz:w1.heap.size<=W.heap.size:=N.kp.size;clear b N Gv vD;unfold tQ gy
  gi_wp2
  exact j _ _ ((KeepsOthers.alloc _ _).from _) ((bU.refl _ _).alloc _) (HI.grown (BI W _ G) (λ_ e=>by cases e)) ⟨W.heap.size,hz,aG W _,rfl⟩
 case body=>
  rintro l L x a' W N6-N ⟨Bx,_,IW,rfl⟩ -;clear vD Gv;have hx:=x.2;have XC:(x.1:Int)<Z a:=O
  have XD:a[x.1]?=P a[x]:=dr hx;have Ox:il ps a[x].t:=by
   obtain⟨q,hq,e⟩:=aU.1 (pD.mem_iff.1 (aN hx))
   show il ps a[x.1].t
   rw[<-e];exact HK q hq
  have z:=((Ga a pD Dx).vP x.1 hx);have z:yt (iB a[x] a 0) rs a[x].t (f a x.1).1 (f a x.1).2:=z;generalize a[x]=p at*;have c9:=(aj N.box.y9 0).1;have eN:=(aj N.box.AW 0).1;simp only[bt,aT]at c9 eN;have t7:(oO (Vp (P (C (w.heap.size+1) 0 G)))).run prog W=.ok (Va #[Y d.p,Y (bj d.ts 0),Y (bj d.ts 1),Y (bj d.ts 2),Y (bj d.ts 3)]) W:=N.box.y7.load;have tbx:=IW.ai1;have p5:=(aj IW 5).1;simp only[gy,bt,aT,bx]at p5;have nc:=N.vS.cell hx;have nf:=N.vS.fz x.1;obtain⟨be,NC⟩:∃be,be=decide (p.t=d):=⟨_,rfl⟩;have hs:∀u:W8,(Op.equalIn 10000 88 (Va #[Y p.t.p,Y (bj p.t.ts 0),Y (bj p.t.ts 1),Y (bj p.t.ts 2),Y (bj p.t.ts 3)]) (Va #[Y d.p,Y (bj d.ts 0),Y (bj d.ts 1),Y (bj d.ts 2),Y (bj d.ts 3)])).run prog u=.ok be u:=λu=>by
   rw[NC,<-afv Ox.ok ku];exact afw u p.t.p (bj p.t.ts 0) (bj p.t.ts 1) (bj p.t.ts 2) (bj p.t.ts 3) d.p (bj d.ts 0) (bj d.ts 1) (bj d.ts 2) (bj d.ts 3)
  have EI:∀(u:W8)(xs ys:Array V9),(eqGuard .eql 88 (.tmp 40) (.tmp 41) (Va xs) (Va ys)).run prog u=.ok () u:=λu xs ys=>run_eqGuard_agg u _ _ _ _ _ _ oK
  have KE:=H NC;clear NC;have HI:=H N;have K3:=H IW;have HTH:=H Ox;have KU:=H z;have HXP:=H XD;clear N IW Ox z XD
  have Bg:=H (show ∀b:Bool,b=(decide (p.s<t)||decide (p.t=d))->mQ a t d (ji a t d (f a) L) x.1=if b then ea (ji a t d (f a) L) x.1 Bt else ji a t d (f a) L from by
   intro b j;unfold mQ JC;rw[ag HXP,j]
   rfl)
  have agq:p.s<t\/(¬p.s<t/\be=Bt)\/(¬p.s<t/\be=Bf):=by cases be<;>by_cases h:p.s<t<;>simp[h]
  rcases agq with h1|⟨h1,h2⟩|⟨h1,h2⟩
  all_goals gi_upto_region 10 with fail
  have A:=ag Bg Bt (by simp[h1]);have o:=HI.tM x.1;rw[aD rfl]at A;rw[<-A]at o;have Cm:=(qo.refl m.heap.size W).set (j:=x.1) (.inr rfl) (Vb Bt);have sI:PV (Sc W (C (m.heap.size+1+1) x.1 G) (Vb Bt)) Bx p:=(cx _ _ _ _ oT).trans K3;generalize Sc W (C (m.heap.size+1+1) x.1 G) (Vb Bt)=W2 at*
  rotate_left
  have A:=ag Bg Bt (by rw[<-ag KE,h2];simp);have o:=HI.tM x.1;rw[aD rfl]at A;rw[<-A]at o;have Cm:=(qo.refl m.heap.size W).set (j:=x.1) (.inr rfl) (Vb Bt);have sI:PV (Sc W (C (m.heap.size+1+1) x.1 G) (Vb Bt)) Bx p:=(cx _ _ _ _ oT).trans K3;generalize Sc W (C (m.heap.size+1+1) x.1 G) (Vb Bt)=W2 at*
  rotate_left
  have A:=ag Bg Bf (by rw[<-ag KE,h2];simp[h1]);have o:=ag HI;rw[aB oS]at A;rw[<-A]at o;have sI:=ag K3;obtain⟨W2,Ny⟩:∃W2,W2=W:=⟨_,rfl⟩;have Cm:qo m.heap.size W W2:=by rw[Ny];exact qo.refl _ _
  rw[<-Ny]at o sI⊢;clear Ny
  rotate_left
  all_goals
   clear c9 eN t7 tbx p5 nc nf hs EI A h1 Bg KE;have NK:=Jo a t d (f a) L x;have Wk:=UC a t d (f a) L x;rw[FA]at NK;generalize mQ a t d (ji a t d (f a) L) x.1=B1 at*;have R0:=H NK;have ye:=H Wk;clear NK Wk;have eN:=(aj o.box.AW 0).1;simp only[bt,aT]at eN;have nc:=o.vS.cell hx;have Bj:=H o;have zF:=H sI;have KT:=H Cm;clear o sI Cm
   cases xm:B1 x.1 with
   |false=>
    rw[xm]at nc;have oR:=H xm;clear xm
    gi_wp2
    have EG:=kP.lE HI Bj KT;refine⟨EG.1,EG.2,?_⟩
    show kP w ar cr rs d t R T wb.heap.size wa.heap.size wc.heap.size m.heap.size a (f a) w1 (ji a t d (f a) (L++[x])) (pg a t d (f a) (L++[x])) W2
    rw[ag R0,ag ye,ag oR,aB oS,aB oS];exact Bj
   |true=>
    rw[xm]at nc;have oR:=H xm;clear xm
    gi_upto_region 11 with fail
    obtain⟨S',rL⟩:∃S':W8->Prop,S'=λV=>∀i,i<W2.heap.size->i≠m.heap.size->V.heap[i]?=W2.heap[i]?:=⟨_,rfl⟩
    have o:=ag Bj;have agE:=(aM.1 o.box.AW).1;have agm:=o.box.l9;have agl:=o.box.CH;have agn:=o.box.lD
    have E:=H (λ(V:W8)(Q:S' V)=>(show V.cell? (C (m.heap.size+1) 0 G)=P (U (P (C m.heap.size 0 G)) (Z a) (Z a))/\V.cell? (C w.heap.size 0 G)=P (U ar (Z rs) cr)/\V.cell? (C wc.heap.size 0 G)=P (U R (Z a) T)/\PV V Bx p from by
     rw[rL]at Q;have sI:=ag zF
     exact⟨(aj ((Q _ O O).trans o.box.Ks) 0).1,(aj ((Q _ O O).trans o.box.y4) 0).1,(aj ((Q _ O O).trans o.box.y10) 0).1,(Q _ sI.lt O).trans sI⟩))
    have Lb:=H (λ(V:W8)(Q:Below W2.heap.size W2 V)=>(show S' V from by rw[rL];exact λi hi _=>Q.block i hi));have Le:=H (λ(V:W8)(Q:S' V)(j:Nat)(v:V9)=>(show S' (V.setCell (C m.heap.size j G) v) from by rw[rL]at Q⊢;exact λi hi hn=>(cx _ _ _ _ (oU hn)).trans (Q i hi hn)))
    have Sy:=H (λ(V:W8)(Q:Below W2.heap.size W2 V)=>al3 ps V base wb.heap.size ar R cr T rs a p (HR.ai (o.box.k.trans (Q.mono o.box.k.size))) (aQ o.box.ro Q (λg e=>(o.box.ro.lt g e).2)) HG (λq hq=>by
     obtain⟨y,hy,e⟩:=aU.1 (pD.mem_iff.1 hq);rw[<-e]
     exact HK y hy) HTH (by
     have h3:(a.map (·.t)).Perm ((K.map (mR S)).map (·.t)):=pD.map _;refine h3.symm.nodup ?_;rw[km]
     exact Ps ep (by rw[km];exact pC)) O)
    have yM:=ag Lb W2.drew B9.drew;clear rL o agE agm agl agn eN nc;refine P7 S' oK oK (λ⟨_,_,h⟩=>h) ?_;refine K9 0 (U (P (C m.heap.size 0 G)) (Z a) (Z a)) rfl (Or.inl ⟨by rfl,λV Q=>by obtain⟨m0,m1,m2,m3⟩:=ag E V Q;go_simp⟩) yM ?_;refine K9 1 (I J (x.1:Nat)) rfl oG yM ?_;refine K9 2 (U ar (Z rs) cr) rfl (Or.inl ⟨by rfl,λV Q=>by obtain⟨m0,m1,m2,m3⟩:=ag E V Q;go_simp⟩) yM ?_;refine K9 3 (U R (Z a) T) rfl (Or.inl ⟨by rfl,λV Q=>by obtain⟨m0,m1,m2,m3⟩:=ag E V Q;go_simp⟩) yM ?_;refine K9 4 (Va #[Y p.t.p,Y (bj p.t.ts 0),Y (bj p.t.ts 1),Y (bj p.t.ts 2),Y (bj p.t.ts 3),I J p.s,I J p.h]) rfl (Or.inl ⟨by rfl,λV Q=>by obtain⟨m0,m1,m2,m3⟩:=ag E V Q;have n0:=(aj m3 0).1;have n1:=(aj m3 1).1;have n2:=(aj m3 2).1;have n3:=(aj m3 3).1;have n4:=(aj m3 4).1;have n5:=(aj m3 5).1;have n6:=(aj m3 6).1;simp only[gy,bt,aT,bx]at n0 n1 n2 n3 n4 n5 n6;go_simp⟩) yM ?_;refine wpAnyH_ready (rs:=[5]) oK oS ?_;refine AllReadyH.cons rfl (λK hK=>?_) AllReadyH.nil
    go_simp
    refine(Sy _ B9.drew).mono ?_;rintro en w4⟨uB,i4,aln,a4,c4,rfl,B,WE⟩;have hle:=ag KU;have hir:i4=(f a x.1).1/\aln=(f a x.1).2:=by
     rcases WE with h|h
     .exact h.Kj hle
     have:=hle.mem;rw[h _ (aN hle.lt)]at this
     cases this
    obtain⟨rfl,rfl⟩:=hir;have M:=jB uB;have rK:=ag Lb w4 M;have uE:=Bj.ai M;have B:=aX (base':=w1.heap.size) B (bf HI.kp.size KT.size);obtain⟨_,f4,-⟩:=uE.C0;have ZZ:=f4.cell (i:=x.1*2) O;have rd4:=f4.cell (i:=x.1*2+1) O;have Z8:=f4.fz (x.1*2);have rg4:=f4.fz (x.1*2+1);have Sg:=H (KT.ai M);have Bk:=H uE;have Ss:=H B;refine hK.out _ _ rK (λ_=>?_);clear hK K uB WE hle uE B f4;refine K9 6 (Vp (P (C m.heap.size (x.1*2) G))) rfl oG rK ?_;refine wpAnyH_ready (rs:=[7]) oK oS ?_;refine AllReadyH.cons rfl (λK hK=>?_) AllReadyH.nil
    go_simp
    refine hK.out _ _ (Le _ (Le _ rK _ _) _ _) (λ_=>?_);clear hK K;refine wpAnyH_done oK ?_ _;have IV:=Bk.put x.1 hx Ss;have Ae:=(Sg.set (b:=m.heap.size) (j:=x.1*2) (.inl rfl) (I J ((f a x.1).1:Nat))).set (b:=m.heap.size) (j:=x.1*2+1) (.inl rfl) (U a4 (f a x.1).2.length c4);have aoW:=(Ga a pD Dx).len x.1 hx;have WI:=(Ga a pD Dx).dS x.1 hx;clear ZZ rd4 Z8 rg4 Bk Ss Sg M rK yM E Lb Le Sy;generalize Sc (Sc w4 (C m.heap.size (x.1*2) G) (I J ((f a x.1).1:Nat))) (C m.heap.size (x.1*2+1) G) (U a4 (f a x.1).2.length c4)=w5 at IV Ae⊢;obtain⟨Cx,WU,V7⟩:=IV;have eM:=(aj Cx.box.Ks 0).1;simp only[bt,aT]at eM;generalize ET:(f a x.1).2=s at*;have H0:=H (show kP w ar cr rs d t R T wb.heap.size wa.heap.size wc.heap.size m.heap.size a (f a) w1 (nP B1 (s.take 0)) (ea (pg a t d (f a) L) x.1 Bt) w5/\Ow w5 w1.heap.size 3 1 (U a4 (Z s) c4) (Z s) (jk s)/\qo m.heap.size W w5 from ⟨Cx,WU,Ae⟩);have HLX:=H WI;clear Cx WU Ae WI
    gi_upto_region 13 with fail
    gi_loopg [65] (Z s) (λgg i wr=>∃k:Nat,k<=Z s/\gg=Z s-k/\i=I J k/\(kP w ar cr rs d t R T wb.heap.size wa.heap.size wc.heap.size m.heap.size a (f a) w1 (nP B1 (s.take k)) (ea (pg a t d (f a) L) x.1 Bt) wr/\Ow wr w1.heap.size 3 1 (U a4 (Z s) c4) (Z s) (jk s)/\qo m.heap.size W wr))
    exact⟨0,aI _,rfl,rfl,H0⟩
    case round=>
     clear H0 eM V7;obtain⟨k,hk,_,rfl,rM,IY,Cn⟩:=hrel
     by_cases gA:k<Z s
     .obtain⟨g,rfl,_,_⟩:=FC IY k gA;have eN:=(aj rM.box.AW 0).1;simp only[bt,aT]at eN;have hy:=ag HLX s[k] (aN gA);have hyi:((s[k]:Nat):Int)<Z a:=O;have nc:=rM.vS.cell (i:=s[k]) O;have nf:=rM.vS.fz s[k];have kf:(k:Int)<Z s:=O;have qf:=H rM;have Gw:=H IY;have Dl:=H Cn;clear rM IY Cn
      gi_wp2
      gi_roundg (Z s-(k+1))
      case measure=>omega
      case rel=>
       refine⟨k+1,O,rfl,oN,?_,?_,Dl.set (.inr rfl) _⟩
       .rw[YD gA];exact(qf).tM s[k]
       exact gC Gw (λg e=>by have:=(Gw.lt g e).1;exact cx _ _ _ _ oT)
     have hke:k=Z s:=O;subst hke;have kf:¬((Z s:Int)<Z s):=O;have qf:=H rM;have Dl:=H Cn;clear rM IY Cn s1
     gi_wp2
     have EG:=kP.lE HI qf Dl;refine⟨EG.1,EG.2,?_⟩
     show kP w ar cr rs d t R T wb.heap.size wa.heap.size wc.heap.size m.heap.size a (f a) w1 (ji a t d (f a) (L++[x])) (pg a t d (f a) (L++[x])) _
     rw[ag R0,ag ye,ag oR,aD rfl,aD rfl];have:=ag qf;rw[vd]at this;exact this
 case done=>
  rintro D xs W hD hxs N o;subst hxs;have Ag:Z a<=maxLen:=oM
  have hA:=Ga a pD Dx;obtain⟨j,A,vJ,B⟩:=N.CP Ag;have Wi:=UA (k:=t) (asked:=d) hA.dS (Z a) 0 O;have u:j.map gw=oC (Z a) (f a) (ji a t d (f a) (iI (Z a) 0)):=by rw[B];unfold oC;apply uh;intro i hi;rw[Wi i (tj.1 hi)];simp
  have IE:∀y∈j,Z y.fr<=3/\∀z∈y.fr,z<Z j:=by
   intro y hy;have:gw y∈j.map gw:=fW hy;rw[B]at this;obtain⟨i,hi,e⟩:=aU.1 this;have hi:=tj.1 hi;have e2:y.fr=(if pg a t d (f a) (iI (Z a) 0) i=Bt then f a i else(0,[])).2:=(by rw[e];rfl);rw[e2]
   split
   .exact⟨hA.len i hi,λz hz=>by have:=hA.dS i hi z hz;omega⟩
   exact⟨oS,λz hz=>by cases hz⟩
  have Gx:=H (λ(V:W8)(Q:Below W.heap.size W V)=>al5 V m.heap.size (m.heap.size+1+1) (P (C m.heap.size 0 G)) (Z a) j (ji a t d (f a) (iI (Z a) 0)) (by rw[A];exact vJ.ai Q) (by rw[A];exact N.vS.ai Q) O IE);rw[A,u]at Gx;have HI:=H N;have HD:=H hD;have zy:=H o;have hk:=N.kp.size;have hl9:=N.box.l9;have aoS:=N.box.CH;have hlD:=N.box.lD
  have HA:=H (λ(V:W8)(Q:∀i,i<W.heap.size->i≠w.heap.size+1+1->V.heap[i]?=W.heap[i]?)=>(show V.cell? (C wa.heap.size 0 G)=P (I J (t:Nat))/\V.cell? (C (m.heap.size+1) 0 G)=P (U (P (C m.heap.size 0 G)) (Z a) (Z a))/\V.cell? (C (m.heap.size+1+1+1) 0 G)=P (U (P (C (m.heap.size+1+1) 0 G)) (Z a) (Z a)) from
   ⟨(aj ((Q _ O O).trans N.box.y9) 0).1,(aj ((Q _ O O).trans N.box.Ks) 0).1,(aj ((Q _ O O).trans N.box.AW) 0).1⟩))
  have Ez:=ag HA W.drew (λi _ _=>rfl);have qH:w.heap.size+1+1<W.heap.size:=O
  clear N hD o vJ B u IE Wi hA vD Gv s1;go_upto_region 17 with fail
  go_region_held3 (λV=>V.cell? (C wa.heap.size 0 G)=P (I J (t:Nat))/\V.cell? (C (m.heap.size+1) 0 G)=P (U (P (C m.heap.size 0 G)) (Z a) (Z a))/\V.cell? (C (m.heap.size+1+1+1) 0 G)=P (U (P (C (m.heap.size+1+1) 0 G)) (Z a) (Z a))) ((refine HA _ ?_;first|exact rK|exact(λi _ _=>rfl)|exact(λi hi hn=>by rw[cx _ _ _ _ (oU hn),cx _ _ _ _ (oU hn)];exact rK i hi hn))) ((go_at_call 70;refine(Gx _ (by exact B9.drew)).mono ?_;rintro en w4⟨k,a4,c4,rfl,b,EO,uB⟩;have M:=jB uB;have rK:∀i,i<W.heap.size->i≠w.heap.size+1+1->w4.heap[i]?=W.heap[i]?:=(λi hi _=>M.block i hi);obtain⟨r0,_⟩:=aj ((M.block _ qH).trans HI.box.y8) 0;obtain⟨r1,f1⟩:=aj ((M.block _ qH).trans HI.box.y8) 1;simp only[bt,aT,bx]at r0 r1;have HN4:=H b;have HP4:=H EO;clear b EO uB))
  obtain⟨q0,q1⟩:=tS r0 r1 (I J (t:Nat)) (U a4 (Z k) c4);have v:∀i,i≠w.heap.size+1+1->(Sc (Sc w4 (C (w.heap.size+1+1) 0 G) (I J (t:Nat))) (C (w.heap.size+1+1) 1 G) (U a4 (Z k) c4)).heap[i]?=w4.heap[i]?:=λi hi=>by rw[cx _ _ _ _ (oU hi),cx _ _ _ _ (oU hi)]
  go_wp2_with fail;refine zi [D] _ oS (λE hE=>?_) (λw' hs=>?_)
  .rw[bu.1 hE];have h1:=ag zy;have h2:=ag HD;have h3:=ag SG;rw[v D O,M.block D (aM.1 h1).1];exact h1
  have h1:=ag zy;have h2:=ag HD;have h3:=ag SG;have hDl:=(aM.1 h1).1;have N:=ag HI;have q2:=(j8 (a:=(C (w.heap.size+1+1) 0 G)) (hs.block (w.heap.size+1+1) oT)).trans q0;have q3:=(j8 (a:=(C (w.heap.size+1+1) 1 G)) (hs.block (w.heap.size+1+1) oT)).trans q1;refine⟨Va #[I J (t:Nat),U a4 (Z k) c4],by simp[results,results42,go_sem,q2,q3],?_⟩;have kW:=N.box.k.size;have b:=ag HN4;have kV:∀i,W.heap.size<=i->w'.heap[i]?=w4.heap[i]?:=λi hi=>(hs.block i oT).trans (v i O)
  rw[ag Bc];refine⟨a,pD,Dx,k,a4,c4,rfl,⟨gC (aX b.row kW) (λg e=>kV g (b.row.lt g e).1),λy hy=>gC (aX (b.aK y hy) kW) (λg e=>kV g ((b.aK y hy).lt g e).1)⟩,HP4,?_⟩;exact⟨hs.os.trans (M.os.trans N.box.k.os),hs.tape.trans (M.tape.trans N.box.k.tape),hs.output.trans (M.output.trans N.box.k.output),by rw[hs.size];simpa using bf kW M.size,λi hi=>(hs.block i oT).trans ((v i O).trans ((M.block i O).trans (N.box.k.block i hi)))⟩
end
def sS{a n h i j}(e:Ce a (C n 0 G)=P h)(f:Ce a (C n 1 G)=P i)(g:Ce a (C n 2 G)=P j)(b c d):Ce (Sc (Sc (Sc a (C n 0 G) b) (C n 1 G) c) (C n 2 G) d) (C n 0 G)=P b/\Ce (Sc (Sc (Sc a (C n 0 G) b) (C n 1 G) c) (C n 2 G) d) (C n 1 G)=P c/\Ce (Sc (Sc (Sc a (C n 0 G) b) (C n 1 G) c) (C n 2 G) d) (C n 2 G)=P d:=
 ⟨by rw[iA O,iA O];exact qz e,by rw[iA O];exact qz (by rw[iA O];exact f),qz (by rw[iA O,iA O];exact g)⟩
def Qb(B:Nat->Bool):∀(l:List (Nat×List Nat))(i:Nat)(pl:Nat->Nat)(out:List (Nat×List Nat)),(lT B l i pl out).length<=Z out+Z l
 | [],_,_,_=>bD _
 |x::r,i,pl,out=>by
  rw[lT]
  split
  .have:=Qb B r (i+1) (gz pl i (Z out)) (out++[(x.1,x.2.map (gz pl i (Z out)))]);simp at this⊢;omega
  have:=Qb B r (i+1) pl out;simp at this⊢;omega
def Qa(B:Nat->Bool)(m:Nat):∀(l:List (Nat×List Nat))(i:Nat)(pl:Nat->Nat)(out:List (Nat×List Nat)),(∀x∈l,x.2.length<=m)->(∀x∈out,x.2.length<=m)->∀x∈lT B l i pl out,x.2.length<=m
 | [],_,_,_,_,h=>h
 |y::r,i,pl,out,hl,h=>by
  rw[lT]
  split
  .refine Qa B m r _ _ _ (λx l=>hl x (bG _ l)) (λx l=>?_);rcases aS.1 l with l|l
   .exact h x l
   rw[bu.1 l,bF];exact hl y bz
  exact Qa B m r _ _ _ (λx l=>hl x (bG _ l)) h
def yH(ps:P9)(S:B8->Nat)(K:List (Th×Nat))(t:Th)(rea:Nat->Nat×List Nat)(a:List Pl):List (Nat×List Nat):=
 lT (ji a (kj ps S K t) t rea (iI (Z a) 0)) (oC (Z a) rea (ji a (kj ps S K t) t rea (iI (Z a) 0))) 0 (λ_=>0) []
def lP(ps:P9)(S:B8->Nat)(K:List (Th×Nat))(t:Th)(rea:Nat->Nat×List Nat)(a:List Pl):List Nat:=yF (kj ps S K t) (yH ps S K t rea a)
def US(c S K t b a):(yH c S K t b a).length<=Z a:=by have:=Qb (ji a (kj c S K t) t b (iI (Z a) 0)) (oC (Z a) b (ji a (kj c S K t) t b (iI (Z a) 0))) 0 (λ_=>0) [];unfold yH;simpa[oC]using this
def UR{d S K t b a}(h:∀i,i<Z a->(b i).2.length<=3):∀x∈yH d S K t b a,x.2.length<=3:=by
 refine Qa _ 3 _ _ _ _ (λx c=>?_) (λx c=>by cases c);obtain⟨i,x,rfl⟩:=aU.1 c
 split
 .exact h i (tj.1 x)
 simp
inductive uj (w:W8)(rs:List PR)(ps:P9)(s:B8)(limit:Int)(rea:(B8->Nat)->List (Th×Nat)->List Pl->Nat->Nat×List Nat)(w':W8):Ending->Prop
 |arg:my limit=Bf->uj w rs ps s limit rea w' (Vr (Vt #[Va #[I J 0,I J 0,U G 0 0],I J 8]))
 |ask:my limit=Bt->nW ps s=G->uj w rs ps s limit rea w' (Vr (Vt #[Va #[I J 0,I J 0,U G 0 0],I J 6]))
 |over {t:Th} {S:B8->Nat} {m:Nat}:my limit=Bt->nW ps s=P t->ll (rs.map (·.R)) S->og (rs.map (·.R)) S->mH ps S m->qt rs S limit.toNat m 0 [] G->uj w rs ps s limit rea w' (Vr (Vt #[Va #[I J 0,I J 0,U G 0 0],I J 7]))
 |yes {t:Th} {S:B8->Nat} {m:Nat} {K:List (Th×Nat)} {O:List Pl} {a:O8} {c:Nat}:my limit=Bt->nW ps s=P t->ll (rs.map (·.R)) S->og (rs.map (·.R)) S->mH ps S m->qt rs S limit.toNat m 0 [] (P K)->(K.map (·.1)).Nodup->O.Perm (K.map (mR S))->(O.Pairwise λp q=>jN p q=Bt)->Ow w' (F (X w)) 5 1 (U a (lP ps S K t (rea S K O) O).length c) (lP ps S K t (rea S K O) O).length ((lP ps S K t (rea S K O) O).map iQ) ->
   uj w rs ps s limit rea w' (Vr (Vt #[Va #[I J (if(bK K t).isSome then 1 else 2),I J (((bK K t).getD 0:Nat):Int),U a (lP ps S K t (rea S K O) O).length c],I J 0]))
def dj(f:aP):Pl:=⟨bp f.aH,f.s,f.h⟩
def abb(g f):sX (dj g) (dj f)=wk g f:=rfl
def Zh(p:Pl):∀(a b:List Pl)(i:Nat),iB p (a++b) i=iB p a i++iB p b (i+Z a)
 | [],b,i=>by simp[iB]
 |x::a,b,i=>by
  rw[jA,iB,iB,Zh p a b (i+1),ff,show i+1+Z a=i+(Z a+1) by omega]
  split<;>rfl
def Zg(p:Pl):∀(l:List aP)(i:Nat),(∀g∈l,sX (dj g) p=Bt)->iB p (l.map dj) i=xC l i
 | [],_,_=>rfl
 |x::l,i,h=>by
  rw[ir,iB,aD (h x bz),xC,Zg p l (i+1) (λg l=>h g (bG _ l))];rfl
def Zj(p:Pl):∀(l:List aP)(i:Nat),(∀g∈l,sX (dj g) p=Bf)->iB p (l.map dj) i=[]
 | [],_,_=>rfl
 |x::l,i,h=>by
  rw[ir,iB,aB (by rw[h x bz];simp),Zj p l (i+1) (λg l=>h g (bG _ l))]
def ad7{x y}(c:x.text=ep (bp x.aH))(d:y.text=ep (bp y.aH)):jX x y=jN (dj x) (dj y):=by
 rw[oX,Az];unfold jX;rw[c,d]
 show _↔x.s<y.s\/(x.s=y.s/\(x.h<y.h\/(x.h=y.h/\fc (ep (bp x.aH)) (ep (bp y.aH))=Bt)))
 by_cases a:x.s=y.s
 .by_cases b:x.h=y.h
  .simp[a,b]
  simp[a,b]
 simp[a]
variable {b:P9}{c:List (Th×Nat)}{a:List aP}{e:List bg}
def anI{S}(l:ia b c a)(f:om b S e a):(a.map dj).Pairwise λp q=>jN p q=true:=by
 rw[wO];have q:=l.zj;unfold List.Nodup at q;rw[wO]at q;refine S2 (λ{x y} d K h=>?_) (f.srt.and q);obtain⟨p,g⟩:=h;rw[ad7 (l.text y K) (l.text x d)]at p
 cases h:jN (dj x) (dj y) with
 |true=>rfl
 |false=>have:=(OP h p).2.2;exact absurd (zq (l.dI x d).w (l.dI y K).w this) g
variable {d:List Pl}
def ake{B}(h:d.Perm B)(c:d.Pairwise λp q=>jN p q=Bt)(A:B.Pairwise λp q=>jN p q=Bt):d=B:=
 S5 (λa b _ _ p q=>by have:=I9 p q;rw[OO]at this;cases this) c A h
def anH(l:ia b c a){Sp}(g:∀f∈a,f.s=Sp (bp f.aH).1):(a.map dj).Perm (c.map (mR Sp)):=by
 refine(GY (Ps (λp:Pl=>p.t) (by rw[km];exact l.zj)) (Ps (λp:Pl=>p.t) (by rw[km];exact l.Jm))).2 λp=>?_
 rw[aU,aU]
 constructor
 .rintro⟨f,p,rfl⟩;refine⟨(bp f.aH,f.h),(l.mem _ _).2 ⟨f,p,rfl,rfl⟩,?_⟩;unfold mR dj;rw[g f p]
 rintro⟨⟨t,n⟩,e,rfl⟩;obtain⟨f,p,K,d⟩:=(l.mem t n).1 e;refine⟨f,p,?_⟩;unfold mR dj;rw[g f p,K,d]
def ki(l:List aP)(i:Nat):Nat×List Nat:=match l[i]? with|some f=>(f.r,f.fr)|none=>(0,[])
def FP{i}(h:i<Z a):ki a i=(a[i].r,a[i].fr):=by unfold ki;rw[dr h]
def QZ{S K}(A:qu b e K)(z:yj e K)(l:ia b c a)(s:om b S e a){Sp}(E:∀f∈a,f.s=Sp (bp f.aH).1)(o:d.Perm (c.map (mR Sp)))(j:d.Pairwise λp q=>jN p q=Bt):d=a.map dj/\zU b Sp K c d (ki a):=by
 have D:=anH l E;have k:=ake (o.trans D.symm) j (anI l s);refine⟨k,?_⟩;have f:∀(i:Nat)(h:i<Z a),yt (iB (dj a[i]) (a.map dj) 0) K (bp a[i].aH) a[i].r a[i].fr/\a[i].fr.length<=3/\∀x∈a[i].fr,x<i:=λi h=>by
  obtain⟨p,r,m,n,u,v,_,w,y⟩:=s.vP A z l (aN h);have B:iB (dj a[i]) (a.map dj) 0=pQ p:=by have t:a.map dj=p.map dj++r.map dj:=(by rw[<-fg,<-m]);rw[t,Zh,Zg _ p 0 (λg q=>by rw[abb];exact n g q),Zj _ r _ (λg q=>by rw[abb];exact u g q),kO];rfl
  rw[B];refine⟨v,w,λx q=>?_⟩;have q:=y x q;have t:Z p<=i:=by
   refine L5 λx=>?_
   have g:a[i]∈p:=by
    have:a[i]=p[i]:=by simp only[m];exact LV x
    rw[this];exact aN x
   have:=n _ g;rw[De]at this;omega
  omega
 subst k;refine⟨o,λi h=>?_,λi h=>?_,λi h=>?_⟩
 .have k:i<Z a:=by simpa using h
  rw[FP k,nB];exact(f i k).1
 .have k:i<Z a:=by simpa using h
  rw[FP k];exact(f i k).2.1
 have k:i<Z a:=by simpa using h
 rw[FP k];exact(f i k).2.2
def Qc(B:Nat->Bool):∀(l:List aP)(a:List (Nat×List Nat))(i:Nat)(pl:Nat->Nat)(out:List (Nat×List Nat)),Z a=Z l->(∀(j:Nat)(h:j<Z l)(e:j<Z a),B (i+j)=Bt->a[j]=(l[j].r,l[j].fr))->(lT B a i pl out).length=(nu B l i (Z out) pl (out.flatMap rW)).1/\(lT B a i pl out).flatMap rW=(nu B l i (Z out) pl (out.flatMap rW)).2
 | [],[],_,_,_,_,_=>⟨rfl,rfl⟩
 | [],x::a,_,_,_,h,_=>by simp at h
 |f::r,[],_,_,_,h,_=>by simp at h
 |f::r,x::a,i,pl,out,h,hx=>by
  have b:Z a=Z r:=by simpa using h
  have c:∀(j:Nat)(h:j<Z r)(e:j<Z a),B (i+1+j)=Bt->a[j]=(r[j].r,r[j].fr):=λj e d l=>by
   have:=hx (j+1) (oU e) (oU d) (by rw[show i+(j+1)=i+1+j by omega];exact l);simpa using this
  rw[lT,nu]
  by_cases l:B i=Bt
  .rw[aD l,aD l];have e:x=(f.r,f.fr):=hx 0 oS oS (oU l);subst e;have:=Qc B r a (i+1) (gz pl i (Z out)) (out++[(f.r,f.fr.map (gz pl i (Z out)))]) b c;rw[br,oc]at this;simpa[rW]using this
  rw[aB l,aB l];exact Qc B r a (i+1) pl out b c
variable {b:Nat}{a c:Nat->Bool}
def aj7{B j}(h:j<(oC b B a).length):(oC b B a)[j]=if a j then B j else(0,[]):=by
 have n:(oC b B a)[j]?=P (if a j then B j else(0,[])):=by
  have c:j<b:=by simpa[oC]using h
  unfold oC;simp[c]
 rw[dr h]at n;exact cI n
def Ic(k l B):yF k (lT B (oC (Z l) (ki l) B) 0 (λ_=>0) [])=lU k l B:=by
 obtain⟨b,c⟩:=Qc B l (oC (Z l) (ki l) B) 0 (λ_=>0) [] (by simp[oC]) (λj h d a=>by
  rw[lZ]at a
  rw[aj7,aD a,FP h])
 unfold yF lU;rw[b,c];rfl
def P8{n:Nat}:∀(B:List (Nat×List Nat))(i:Nat)(pl:Nat->Nat)(out:List (Nat×List Nat)),(∀j,j<i+Z B->a j=c j)->lT a B i pl out=lT c B i pl out
 | [],_,_,_,_=>rfl
 |x::B,i,pl,out,h=>by
  rw[lT,lT,h i oS,P8 (n:=n) B (i+1) _ _ (λj b=>h j (by rw[ff];omega)),P8 (n:=n) B (i+1) _ _ (λj b=>h j (by rw[ff];omega))]
def aac{l}(h:∀i,i<Z l->c i=a i):lU b l c=lU b l a:=by
 rw[<-Ic,<-Ic];have e:oC (Z l) (ki l) c=oC (Z l) (ki l) a:=by unfold oC;apply uh;intro i j;rw[h i (tj.1 j)]
 rw[e,P8 (n:=0) _ 0 _ _ (λj k=>h j (by simpa[oC]using k))]
def Fx(j:Nat):∀(h:List Nat)(B:Nat->Bool),nP B h j=(B j||decide (j∈h))
 | [],B=>by simp[nP]
 |x::r,B=>by
  have h:=Fx j r (ea B x Bt)
  show nP (ea B x Bt) r j=_
  rw[h];unfold ea
  by_cases e:j=x
  .simp[e]
  simp[e]
def ahD(l i):lF l i=(ki l i).2:=by
 unfold lF ki
 cases l[i]?<;>rfl
variable {a:List aP}
def Zq(h:b<Z a)(k t):JC (a.map dj) k t b=(decide (lS a b<k)||decide (bp a[b].aH=t)):=by unfold JC lS;rw[gP,dr h];rfl
variable {c:Th}
def Za{k:Nat}(f:∀(i:Nat)(h:i<Z a),bp a[i].aH≠c)(t:∀(i:Nat),i<Z a->∀x∈(ki a i).2,x<Z a/\lS a x<=lS a i):∀(d m:Nat),m+d=(a.map dj).length->∀j,j<Z a->(ji (a.map dj) k c (ki a) (iI (a.map dj).length m) j=Bt->lS a j<k)/\(m<=j->lS a j<k->ji (a.map dj) k c (ki a) (iI (a.map dj).length m) j=Bt)
 | 0,m,hm,j,hj=>by
  rw[iy]at hm;subst hm;rw[H8];refine⟨λh=>(by cases h),λh=>?_⟩;rw[bF]at h;omega
 |d+1,m,hm,j,hj=>by
  have l:m<(a.map dj).length:=O
  have i:m<Z a:=by rw[bF]at l;exact l
  have o:=Za (k:=k) f t d (m+1) O;rw[H9 l,Jo]
  show(tO _ _ _ _ _ m j=Bt->_)/\(_->_->tO _ _ _ _ _ m j=Bt)
  rw[FA];have n:=Zq i k c;rw[show decide (bp a[m].aH=c)=Bf from decide_eq_false (f m i),Bool.or_false]at n;have g:∀q,mQ (a.map dj) k c (ji (a.map dj) k c (ki a) (iI (a.map dj).length (m+1))) m q=(ji (a.map dj) k c (ki a) (iI (a.map dj).length (m+1)) q||(decide (q=m)&&decide (lS a m<k))):=λq=>by
   unfold mQ;rw[n]
   by_cases d:lS a m<k
   .rw[aD (oU d)];unfold ea
    by_cases x:q=m
    .simp[x,d]
    simp[x]
   rw[aB (oU d)];simp[d]
  have b:∀q,q<Z a->mQ (a.map dj) k c (ji (a.map dj) k c (ki a) (iI (a.map dj).length (m+1))) m q=Bt->lS a q<k:=λq e h=>by
   rw[g q]at h;simp only[zM,pE,qW]at h;rcases h with h|⟨rfl,h⟩
   .exact(o q e).1 h
   exact h
  have q:m<=j->lS a j<k->mQ (a.map dj) k c (ji (a.map dj) k c (ki a) (iI (a.map dj).length (m+1))) m j=true:=λd x=>by
   rw[g j]
   by_cases e:j=m
   .subst e;simp[x]
   rw[(o j hj).2 O x];rfl
  split
  .rename_i e;rw[Fx];refine⟨λh=>?_,λd x=>by rw[q d x];rfl⟩;simp only[zM,qW]at h;rcases h with h|h
   .exact b j hj h
   have p:=b m i e;have:=(t m i j h).2;omega
  exact⟨b j hj,q⟩
def Y9{k:Nat}(u:b<Z a)(g:∀(i:Nat)(h:i<Z a),bp a[i].aH=c↔i=b):∀(d m:Nat),m+d=(a.map dj).length->∃t,rS a k (a.map dj).length (ea (λ_=>Bf) b Bt)=rS a k m t/\(∀j,t j=(ji (a.map dj) k c (ki a) (iI (a.map dj).length m) j||decide (j=b)))/\(m<=b->ji (a.map dj) k c (ki a) (iI (a.map dj).length m) b=Bt)
 | 0,m,hm=>by
  rw[iy]at hm;subst hm;refine⟨_,rfl,λj=>?_,λh=>by rw[bF]at h;omega⟩;rw[H8];unfold ea
  by_cases e:j=b<;>simp[e,ji]
 |d+1,m,hm=>by
  have l:m<(a.map dj).length:=O
  have i:m<Z a:=by rw[bF]at l;exact l
  obtain⟨t,s,n,o⟩:=Y9 u g d (m+1) O;refine⟨CC a k t m,s,?_⟩;rw[H9 l,Jo]
  show(∀j,CC a k t m j=(tO _ _ _ _ _ m j||_))/\(_->tO _ _ _ _ _ m b=Bt)
  rw[FA];generalize ji (a.map dj) k c (ki a) (iI (a.map dj).length (m+1))=f at*;have r:=Zq i k c;rw[show decide (bp a[m].aH=c)=decide (m=b) by rw[decide_eq_decide];exact g m i]at r;have d:∀q,mQ (a.map dj) k c f m q=(f q||(decide (q=m)&&(decide (lS a m<k)||decide (m=b)))):=λq=>by
   unfold mQ;rw[r]
   cases p:(decide (lS a m<k)||decide (m=b)) with
   |true=>
    rw[aD rfl];unfold ea
    by_cases e:q=m<;>simp[e]
   |false=>rw[aB oS];simp
  have p:(t m||decide (lS a m<k))=mQ (a.map dj) k c f m m:=by
   rw[d m,n m];simp
   cases f m<;>cases decide (m=b)<;>cases decide (lS a m<k)<;>rfl
  unfold CC;rw[p,ahD]
  cases q:mQ (a.map dj) k c f m m with
  |true=>
   simp only[aD];refine⟨λj=>?_,λh=>?_⟩
   .rw[Fx,Fx];unfold ea
    by_cases e:j=m
    .subst e;simp[q]
    simp only[aB e];rw[n j,d j];simp[e]
    cases f j<;>cases decide (j=b)<;>simp
   rw[Fx]
   by_cases e:b=m
   .subst e;rw[q];rfl
   rw[d b,o O];rfl
  |false=>
   simp only[qi,pG];refine⟨λj=>?_,λh=>?_⟩
   .unfold ea
    by_cases e:j=m
    .subst e;rw[aD rfl,q];rw[d j]at q;simp at q;simp[q]
    rw[aB e,n j,d j];simp[e]
   by_cases e:b=m
   .subst e;rw[d b]at q;simp at q
   rw[d b,o O];rfl
def Ze{β:Type}{l:List β}(h:l.Nodup){i j}(b:i<Z l)(c:j<Z l)(e:l[i]=l[j]):i=j:=by
 unfold List.Nodup at h;rw[LZ]at h;rcases BF i j with a|a|a
 .exact absurd e (h i j b c a)
 .exact a
 exact absurd e.symm (h j i c b a)
def ajd{α β:Type}{f:α->β}{l:List α}(h:(l.map f).Nodup){x y}(c:x∈l)(d:y∈l)(e:f x=f y):x=y:=by obtain⟨i,a,rfl⟩:=GX.1 c;obtain⟨j,b,rfl⟩:=GX.1 d;have:=Ze h (i:=i) (j:=j) (oU a) (oU b) (oU e);subst this;rfl
def ON(h:f<Z a):lS a f=a[f].s:=by unfold lS;rw[dr h];rfl
variable {b:P9}{c:List (Th×Nat)}{d:List PR}
def anG{S}(m:qu b e d)(k:yj e d)(n:ia b c a)(o:om b S e a):∀i,i<Z a->∀x∈(ki a i).2,x<Z a/\lS a x<=lS a i:=λi h x l=>by
 obtain⟨f,_,K,g,_,_,_,_,j⟩:=o.vP m k n (aN h);rw[FP h]at l;have i:=j x l;have l:x<Z a:=by rw[K,br];omega
 refine⟨l,?_⟩;rw[ON l,ON h];have h:a[x]∈f:=by
  have:a[x]=f[x]:=by simp only[K];exact LV i
  rw[this];exact aN i
 have:=g _ h;rw[De]at this;omega
variable {g:Th}
def afD{S}(m:qu b e d)(k:yj e d)(f:ia b c a)(n:om b S e a){Sp}(K:bK c g=G):lP b Sp c g (ki a) (a.map dj)=lU (kj b Sp c g) a (λi=>decide (lS a i<kj b Sp c g)):=by
 have t:∀(i:Nat)(h:i<Z a),bp a[i].aH≠g:=λi h l=>by
  have B:(g,a[i].h)∈c:=(f.mem _ _).2 ⟨a[i],aN h,l,rfl⟩;have:=(I3 c g).2 ⟨_,B⟩;rw[K]at this
  cases this
 have h:=Za (k:=kj b Sp c g) t (anG m k f n) (a.map dj).length 0 O;unfold lP yH;generalize ji (a.map dj) (kj b Sp c g) g (ki a) (iI (a.map dj).length 0)=B at*;rw[bF,Ic];refine aac λj l=>?_
 have:=h j l;rw[oX,qW];exact⟨this.1,this.2 (aI _)⟩
def afC(d:ia b c a){Sp}(s:∀f∈a,f.s=Sp (bp f.aH).1)(m:f<Z a)(K:bp a[f].aH=g):kj b Sp c g=lS a f/\bK c g=P a[f].h/\lP b Sp c g (ki a) (a.map dj)=lU (lS a f) a (rS a (lS a f) (Z a) (ea (λ_=>Bf) f Bt)):=by
 have r:(g,a[f].h)∈c:=(d.mem _ _).2 ⟨a[f],aN m,K,rfl⟩;have k:bK c g=P a[f].h:=by
  have l:=(I3 c g).2 ⟨_,r⟩
  cases p:bK c g with
  |none=>rw[p]at l;cases l
  |some n=>have h:=rU p;obtain⟨t,q,i,e⟩:=(d.mem g n).1 h;have o:=d.zj;have:t=a[f]:=ajd o q (aN m) (by rw[i,K]);rw[<-e,this]
 have t:(bE b g.1).isSome=true:=by have:=(d.dI _ (aN m)).bn;rw[K]at this;rw[this];rfl
 have p:kj b Sp c g=lS a f:=by unfold kj;rw[aD t,k,ON m,s _ (aN m),K];rfl
 refine⟨p,k,?_⟩;have n:∀(i:Nat)(h:i<Z a),bp a[i].aH=g↔i=f:=λi h=>by
  constructor
  .intro e;have o:=d.zj;have l:(a.map λf=>bp f.aH)[i]'(oU h)=(a.map λf=>bp f.aH)[f]'(oU m):=(by simp[e,K]);exact Ze o _ _ l
  rintro rfl;exact K
 obtain⟨h,l,i,q⟩:=Y9 (k:=lS a f) m n (a.map dj).length 0 O;unfold lP yH;rw[p];generalize ji (a.map dj) (lS a f) g (ki a) (iI (a.map dj).length 0)=B at*;rw[bF]at l⊢;rw[Ic,l];refine aac λj _=>?_
 show _=h j
 rw[i j]
 by_cases e:j=f
 .subst e;rw[q (aI _)];rfl
 simp[e]
def anq(A):wh (pa A)=if lG A then P (bp A) else none:=by
 unfold wh lG bp pa;simp only[LK,km];have e:(A.aq.any ((λx=>x.1) ∘ fV))=!(A.aq.all λt=>!t.jv):=by
  induction A.aq with
  |nil=>rfl
  |cons t r x=>
   rw[Bv,List.all_cons,x]
   show(t.jv||_)=_
   cases t.jv<;>simp
 rw[e]
 cases (A.aq.all λt=>!t.jv) with
 |true=>rfl
 |false=>rfl
def QY(a q):nW a q=if iZ a q&&lG (aJ q) then P (bp (aJ q)) else none:=by
 unfold nW;rw[TM]
 cases iZ a q with
 |false=>rfl
 |true=>rw[aD rfl,Br];exact anq (aJ q)
section
open Go.RowKit Go.Maps
attribute [local go_sem ↓] pB qa p9 pY
attribute [local go_sem] sT sR
def WV(w:W8)(b:Nat)(v0 v1 v2:V9):Prop:=w.heap[b]?=P (Vc #[v0,v1,v2] 49)
variable{b e f g:Nat}{a j:W8}
def WV.zero(h:WV a b (I J 0) (I J 0) (U G 0 0)):Ce a (C b 0 G)=P (I J 0)/\Ce a (C b 1 G)=P (I J 0)/\Ce a (C b 2 G)=P (U G 0 0)/\∀i,a.frozen? (C b i G)=false:=
 ⟨(aj h 0).1,(aj h 1).1,(aj h 2).1,λi=>(aj h i).2⟩
def WV.new(w):WV (Al w (Vc #[I J 0,I J 0,U G 0 0] 49)) (F (X w)) (I J 0) (I J 0) (U G 0 0):=aG w _
variable{c h i:V9}
def WV.ai(w:WV a b h c i)(k:Below (F (X a)) a j):WV j b h c i:=(k.block b (aM.1 w).1).trans w
def WV.set{b j}(h:WV a b j i c)(w d e):WV (Sc (Sc (Sc a (C b 0 G) w) (C b 1 G) d) (C b 2 G) e) b w d e:=by
 have f:WV (Sc a (C b 0 G) w) b w i c:=by
  show _=_
  rw[vg a b 0 _ _ (0,0) w h];exact kn _ _ _ _ _ _ h
 have g:WV (Sc (Sc a (C b 0 G) w) (C b 1 G) d) b w d c:=by
  show _=_
  rw[vg _ b 1 _ _ (0,0) d f];exact kn _ _ _ _ _ _ f
 show _=_
 rw[vg _ b 2 _ _ (0,0) e g];exact kn _ _ _ _ _ _ g
variable{d:V8}
def CU{wr}(h:Ow a e wr g c f d)(l:b<e)(i j k):Ow (Sc (Sc (Sc a (C b 0 G) i) (C b 1 G) j) (C b 2 G) k) e wr g c f d:=
 gC h λv n=>by
  have:=(h.lt v n).1;rw[cx _ _ _ _ oT,cx _ _ _ _ oT,cx _ _ _ _ oT]
def ajG{w T}(h:Ow a e w g c f d){i j}(m:a.heap[b]?=P (Vc i T j))(n:w≠T):∀v,c.ownBlock=P v->v≠b:=by
 rcases h.2 with⟨rfl,_⟩|⟨_,_,_,rfl,_,k,_⟩
 .intro v w;cases w
 intro v w
 cases w
 rintro rfl;rw[k]at m;injection m with m
 injection m with _ l
 exact n l
def Rh{m}(o:Below (F (X a)) a j)(s:F (X a)<=g)(k:WV j g c h i)(q:Ow j b 5 1 (U m e f) e d)(t:g<b)(l:F (X a)<=b)(r p n):WV (Sc (Sc (Sc j (C g 0 G) r) (C g 1 G) p) (C g 2 G) n) g r p n/\Below (F (X a)) a (Sc (Sc (Sc j (C g 0 G) r) (C g 1 G) p) (C g 2 G) n)/\World.ownsRow (Sc (Sc (Sc j (C g 0 G) r) (C g 1 G) p) (C g 2 G) n) (F (X a)) 5 1 (U m e f) e d:=
 ⟨k.set r p n,((o.setCell s _).setCell s _).setCell s _,aX (CU q t _ _ _) l⟩
def aka(w base b D l s u j)(hs:s.size<=2000000)(h:oi w base b D)(mN:Z D<=30)(ow:∀r∈D,Z r.bs<=3)(Am:∀r∈D,r.R.pd.size<=800)(IN:∀r∈D,∀x∈r.bs,x.1.pd.size<=800)(VO:mE ((D.map (·.R)).flatMap jl) [])(Ap:iU ((D.map (·.R)).flatMap jl) []=l)(An:Z l<=1000)(rM:∀r∈D,(∃n,bE l r.R.pd=P n)/\∀x∈r.bs,∃n,bE l x.1.pd=P n)(f0)(NL:ll (D.map (·.R)) f0)(NN:∀k,f0 k<=1000)(Wd:uT D (il l))(hg:∀r∈D,kD l r)(VQ:∀t,nW l s=P t->fY t)(W7:my u=Bt->∀S m K,ll (D.map (·.R)) S->og (D.map (·.R)) S->mH l S m->qt D S u.toNat m 0 [] (P K)->∀d,d.Perm (K.map (mR S))->(d.Pairwise λp q=>jN p q=Bt)->zU l S D K d (j S K d)):Calls prog 26 #[Vp (P (C b 0 G)),Y s,I J u] w λe w'=>uj w D l s u j w' e/\Below (F (X w)) w w':=by
 obtain⟨a,c,hb,_,hr⟩:=h;have kV:b<F (X w):=(aM.1 hb).1;have k0:Below (F (X w)) w (Al w (Vc #[I J 0,I J 0,U G 0 0] 49)):=B9.alloc L9 _;have v0:WV (Al w (Vc #[I J 0,I J 0,U G 0 0] 49)) (F (X w)) (I J 0) (I J 0) (U G 0 0):=aG w _;have s0:(Al w (Vc #[I J 0,I J 0,U G 0 0] 49)).heap.size=F (X w)+1:=oS
 have HR:=H hr;have HG:=H hg;have abM:=H VQ;have Sz:=H W7;have Dj:=H Wd;have zG:=H (show ∀r∈D,r.R.pd.size<=800/\(bE l r.R.pd).isSome=Bt from λr hr=>⟨Am r hr,by obtain⟨n,e⟩:=(rM r hr).1;rw[e];rfl⟩);have KO:=H NL;have zC:=H NN;have Ds:=H (λ(V:W8)(hV:Below (F (X w)) w V)=>Jw V base a c D l (hr.Ia hV L9) mN ow Am IN VO Ap An rM f0 NL NN);have HB:=H hb;clear hr ow Am IN VO Ap An rM NL NN Wd hg VQ W7 hb;go_in;go_upto_region 1 with fail;generalize(Al w (Vc #[I J 0,I J 0,U G 0 0] 49))=w0 at*;obtain⟨x0,_⟩:=aj ((k0.block b kV).trans HB) 0;obtain⟨z0,z1,z2,M⟩:=v0.zero;have nw:=M 0;have qc:=M 1;have qd:=M 2;have Ln:=H v0;have mW:=H k0;have oa:=H s0;clear k0 v0 s0 M;go_wp2_with fail;refine(YH w0 u).mono ?_;rintro e w1⟨rfl,hw⟩;have hw:=hw.symm;subst hw
 cases hL:my u with
 |false=>have HL:=H hL;clear hL;go_wp2_with fail;obtain⟨q0,q1,q2⟩:=sS z0 z1 z2 (I J 0) (I J 0) (U G 0 0);refine bN (v:=Vt #[Va #[I J 0,I J 0,U G 0 0],I J 8]) (by simp[results,results26,go_sem,q0,q1,q2]) rfl ?_;exact⟨.arg HL,((mW.setCell L9 _).setCell L9 _).setCell L9 _⟩
 |true=>
  obtain⟨_,_⟩:=Fp hL;obtain⟨lim,rfl⟩:∃n:Nat,u=n:=⟨u.toNat,O⟩;have HL:=H hL;clear hL z0 z1 z2 nw qc qd;go_wp2_with fail;refine(xE _ b _ a (Z D) c rfl x0).mono ?_;rintro e w2⟨rfl,hw⟩;have hw:=hw.symm;subst hw;go_wp2_with fail;refine(Ds w0 mW).mono ?_;clear Ds;rintro e w2⟨rfl,cB,qD,S,n,hm,hn,Cy,Ah⟩;have La:=H (show ∀k,S k<=1000000 from λk=>by have:=Ah f0 KO k;have:=ag zC k;omega);have HV:=H Cy;have Dq:=H Ah;have HM:=H hm;have xZ:=H qD;clear Cy Ah hm qD x0;go_wp2_with fail;refine(Z4 w2 s _ n l S HM hs).mono ?_;rintro e w3⟨ow,rfl⟩;have uH:=ow.size;have uG:=ag oa;have sD:Below (F (X w0)) w0 w3:=xZ.trans (ow.mono O);have qG:=HM.block (ow.block _ cB);have uU:=H sD;have HM3:=H qG;have v3:WV w3 (F (X w)) (I J 0) (I J 0) (U G 0 0):=(sD.block _ O).trans Ln;have Og:=(sD.block b O).trans ((mW.block b kV).trans HB)
  cases hP:nW l s with
  |none=>have HP:=H hP;have v4:WV (Al w3 (Vc (bP (⟨#[]⟩,[])).toArray 88)) (F (X w)) (I J 0) (I J 0) (U G 0 0):=(aW _ _ _ O).trans v3;have wy:=H ((mW.trans (sD.mono O)).alloc O (Vc (bP (⟨#[]⟩,[])).toArray 88));obtain⟨z0,z1,z2,M⟩:=v4.zero;have nw:=M 0;have qc:=M 1;have qd:=M 2;clear hP sD qG ow v3 Og M v4 uG;rw[Option.getD_none,G4];go_wp2_with fail;obtain⟨q0,q1,q2⟩:=sS z0 z1 z2 (I J 0) (I J 0) (U G 0 0);refine bN (v:=Vt #[Va #[I J 0,I J 0,U G 0 0],I J 6]) (by simp[results,results26,go_sem,q0,q1,q2]) rfl ?_;exact⟨.ask HL HP,((wy.setCell L9 _).setCell L9 _).setCell L9 _⟩
  |some t=>
   have ku:=ag abM t hP;have HP:=H hP;have wy:=H (sD.alloc O (Vc (bP t).toArray 88));have v4:WV (Al w3 (Vc (bP t).toArray 88)) (F (X w)) (I J 0) (I J 0) (U G 0 0):=(aW _ _ _ O).trans v3;have WY:=(aW w3 (Vc (bP t).toArray 88) b O).trans Og;have Ai:=qG.block (aW w3 (Vc (bP t).toArray 88) (F (X w0)) O);have t4:TV (Al w3 (Vc (bP t).toArray 88)) (F (X w3)) t:=aG _ _;have vM:(Al w3 (Vc (bP t).toArray 88)).heap.size=F (X w3)+1:=oS;have Dz:=H v4;have Sw:=H WY;have Gs:=H Ai;have Lg:=H t4;have yi:=H vM;clear hP sD qG ow v3 Og v4 WY Ai t4 vM uG;rw[yp,Option.isSome_some];go_upto_region 7 with fail;generalize(Al w3 (Vc (bP t).toArray 88))=w4 at*;obtain⟨x0,_⟩:=aj Sw 0;go_wp2_with fail;refine(xE _ b _ a (Z D) c rfl x0).mono ?_;rintro e z⟨rfl,hw⟩;have hw:=hw.symm;subst hw;clear x0;go_wp2_with fail;have vM:=ag yi;have EA:Below (F (X w)) w w4:=mW.trans (wy.mono (oF (ag oa)));have uE:=HR.Ia EA L9;refine(Ve w4 base a c D (F (X w0)) n l S lim (il l) uE (oF EA.size) Gs (λk _=>La k) O zG Dj O).mono ?_;rintro e z⟨m,r,NH,Oh,Q,xr,OC⟩;have uG:=ag oa;have Nq:Below (F (X w)) w z:=EA.trans (Q.mono O);have v5:WV z (F (X w)) (I J 0) (I J 0) (U G 0 0):=(Q.block _ O).trans Dz;have Fh:=Q.size;have yc:=H Nq;have HX:=H (And.intro NH Oh)
   cases r with
   |none=>have f:=xr rfl;subst f;obtain⟨z0,z1,z2,M⟩:=v5.zero;have nw:=M 0;have qc:=M 1;have qd:=M 2;clear xr OC NH Oh Nq Q vM EA uE v5 M uG Fh;go_wp2_with fail;obtain⟨q0,q1,q2⟩:=sS z0 z1 z2 (I J 0) (I J 0) (U G 0 0);refine bN (v:=Vt #[Va #[I J 0,I J 0,U G 0 0],I J 7]) (by simp[results,results26,go_sem,q0,q1,q2]) rfl ?_;exact⟨.over HL HP HV Dq HX.1 HX.2,((yc.setCell L9 _).setCell L9 _).setCell L9 _⟩
   |some K=>
    obtain⟨kb,rfl,_,WM,_,VJ⟩:=OC K rfl;have t5:TV z (F (X w3)) t:=Lg.ai Q;have Cr:=Gs.block (Q.block _ O);have Cx:=uE.ai Q;have WZ:=(Q.block b O).trans Sw;have Be:=H WM;have HV5:=H v5;have Dp:=H VJ;have Lh:=H t5;have HM5:=H Cr;have Bl:=H Cx;have abZ:=H WZ;have lL:=H (show(F (X w))+1=F (X w0)/\(F (X w0))<F (X w2)/\(F (X w2))<=F (X w3)/\(F (X w3))+1<=(F (X z)) from by omega);clear xr OC NH Oh Nq Q WM VJ vM EA uE v5 t5 Cr Cx WZ uG Fh;go_upto_region 10 with fail
    have pC:=H (show(K.map λp=>ep p.1).Nodup from by
     have h1:=Be.nodup;unfold List.Nodup at h1⊢;rw[wO]at h1⊢
     exact S2 (λg hb rR e=>rR (zq (Dp _ g).w (Dp _ hb).w e)) h1)
    have VI:kb<F (X z):=Be.lt
    have HWO:=H (λ(V:W8)(hV:Below (F (X z)) z V)=>(show Calls prog 42 #[U a (Z D) c,.map (P (F (X w0))),.map (P kb),cP t] V λe w'=>∃(d:List Pl)(B:List ND)(a6:O8)(c6:Nat),d.Perm (K.map (mR S))/\(d.Pairwise λp q=>jN p q=Bt)/\e=Vr (Va #[I J (kj l S K t:Nat),U a6 (Z B) c6])/\oh w' (F (X z)) (U a6 (Z B) c6) B/\yF (kj l S K t) (B.map gw)=lP l S K t (j S K d) d/\(Z B)<=50/\(∀x∈B,Z x.fr<=3)/\Below (F (X V)) V w' from by
     have g:=ag HX;have mM:=ag lL;refine(aod l V base (F (X w0)) n kb a c D S K t (j S K) (Bl.Ia hV L9) (HM5.block (hV.block _ O)) (Be.block (hV.block _ VI)) HG Dp O (λp _=>La p) ku (La _) pC (λd h1 h2=>Sz HL S m K HV Dq g.1 (oU g.2) d h1 h2)).mono ?_;rintro e w'⟨d,Ao,za,B,a6,c6,rfl,hn,hp,NB⟩;have hA:=ag Sz HL S m K HV Dq g.1 (oU g.2) d Ao za;have hp:B.map gw=yH l S K t (j S K d) d:=hp;have L:Z B=(B.map gw).length:=oS;have hOl:Z d=Z K:=(by rw[Ao.length_eq,bF]);refine⟨d,B,a6,c6,Ao,za,rfl,hn.dS hV.size,by rw[hp];rfl,?_,λx g=>?_,NB⟩
     .rw[L,hp];have:=US l S K t (j S K d) d;omega
     have h3:gw x∈B.map gw:=fW g;rw[hp]at h3
     exact UR hA.len (gw x) h3))
    have HA:=H (λ(V:W8)(hV:Below (F (X z)) z V)=>(show V.cell? (C b 0 G)=P (U a (Z D) c)/\(oO (Vp (P (C (F (X w3)) 0 G)))).run prog V=.ok (cP t) V from by
     have mM:=ag lL
     exact⟨(aj ((hV.block b O).trans abZ) 0).1,(Lh.ai hV).load⟩))
    have Np:Below (F (X z)) z z.drew:=B9.drew;have Ez:=ag HA z.drew Np
    go_region_held3 (λV=>V.cell? (C b 0 G)=P (U a (Z D) c)/\(oO (Vp (P (C (F (X w3)) 0 G)))).run prog V=.ok (cP t) V) ((refine HA _ ?_;first|exact Np|exact E|exact f|exact B9.drew|exact oA.drew|exact E.alloc E.size _|exact f.alloc f.size _|exact((E.setCell L9 _).setCell L9 _).setCell L9 _|exact((E.setCell f.size _).setCell f.size _).setCell f.size _)) ((first
     | (go_at_call 36;refine(xE _ b _ a (Z D) c rfl (HA _ (by first|exact B9.drew|exact oA.drew)).1).mono ?_;rintro e w6⟨rfl,hw⟩;have hw:=hw.symm;subst hw)
     | (go_at_call 42;refine(HWO _ (by first|exact B9.drew|exact oA.drew)).mono ?_;rintro e w6⟨d,B,a6,c6,Ao,za,rfl,WQ,Wm,hl6,Wo,xn⟩;have f:Below (F (X z)) z w6:=(by first|exact jB xn|exact BZ oA xn);have pD:=H (And.intro Ao za);have Bh:=H WQ;have HEX:=H Wm;have HF6:=H Wo;(first|(have Rm:=(WV.new z).ai (jB xn))|skip);clear Ao za WQ Wm Wo xn)
     | (go_at_call 43;refine(aek _ (F (X z)) (kj l S K t) a6 c6 B (by first|exact Bh|exact(Bh).ai oA) hl6 HF6).mono ?_;rintro e w7⟨T,W,rfl,g,L⟩;have E:Below (F (X z)) z w7:=(by first|exact f.trans (L.mono f.size)|exact BZ (f.alloc f.size _) L|exact(f.alloc f.size _).trans (L.mono (f.alloc f.size _).size));(first|(have R:=Rm.ai L;have CB:=R.zero;obtain⟨z0,z1,z2,M⟩:=CB;have nw:=M 0;have qc:=M 1;have qd:=M 2;clear M)|(have R:=(WV.new w6).ai L;have CB:=R.zero;obtain⟨z0,z1,z2,M⟩:=CB;have nw:=M 0;have qc:=M 1;have qd:=M 2;clear M)|skip);rw[ag HEX]at g⊢;have N:=H g;clear g)))
    have o:WV (Al w7 (Vc #[I J 2,I J 0,U T (lP l S K t (j S K d) d).length W] 49)) (F (X w7)) (I J 2) (I J 0) (U T (lP l S K t (j S K d) d).length W):=aG w7 _;have v:Below (F (X z)) z (Al w7 (Vc #[I J 2,I J 0,U T (lP l S K t (j S K d) d).length W] 49)):=E.alloc E.size _;have y:Ow (Al w7 (Vc #[I J 2,I J 0,U T (lP l S K t (j S K d) d).length W] 49)) (F (X z)) 5 1 (U T (lP l S K t (j S K d) d).length W) (lP l S K t (j S K d) d).length ((lP l S K t (j S K d) d).map iQ):=(aX N f.size).alloc _;have ox:F (X z)<=F (X w7):=E.size;generalize(Al w7 (Vc #[I J 2,I J 0,U T (lP l S K t (j S K d) d).length W] 49))=w8 at o v y⊢;obtain⟨A,i⟩:∃A,A=F (X w7):=⟨_,rfl⟩;rw[<-i]at o ox⊢;clear i
    rotate_left
    obtain⟨o,v,y⟩:=Rh E f.size R N oS (by have:=f.size;first|omega|(simp only[bL];omega)) (I J 2) (I J 0) (U T (lP l S K t (j S K d) d).length W);clear R z0 z1 z2 nw qc qd;generalize World.setCell (World.setCell (World.setCell w7 _ _) _ _) _ _=w8 at o v y⊢;obtain⟨A,i⟩:∃A,A=F (X w6):=⟨_,rfl⟩;have ox:F (X z)<=A:=(by rw[i];exact f.size);rw[<-i]at o⊢;clear i
    rotate_left
    obtain⟨o,v,y⟩:=Rh E L9 R N (aM.1 Rm).1 (by have:=f.size;first|omega|(simp only[bL];omega)) (I J 2) (I J 0) (U T (lP l S K t (j S K d) d).length W);clear R z0 z1 z2 nw qc qd;generalize World.setCell (World.setCell (World.setCell w7 _ _) _ _) _ _=w8 at o v y⊢;obtain⟨A,i⟩:∃A,A=F (X z):=⟨_,rfl⟩;have ox:F (X z)<=A:=(by rw[i];exact L9);rw[<-i]at o⊢;clear i
    rotate_left
    obtain⟨o,v,y⟩:=Rh E L9 R N (aM.1 Rm).1 (by have:=f.size;first|omega|(simp only[bL];omega)) (I J 2) (I J 0) (U T (lP l S K t (j S K d) d).length W);clear R z0 z1 z2 nw qc qd;generalize World.setCell (World.setCell (World.setCell w7 _ _) _ _) _ _=w8 at o v y⊢;obtain⟨A,i⟩:∃A,A=F (X z):=⟨_,rfl⟩;have ox:F (X z)<=A:=(by rw[i];exact L9);rw[<-i]at o⊢;clear i
    rotate_left
    all_goals
     have hSZ:=ag lL;have t8:=(HA w8 v).2;have Yt:=(Be.block (v.block _ VI)).look ku underlying83;have zz0:=(aj o 0).1;have zz1:=(aj o 1).1;have zz2:=(aj o 2).1;have zg0:=(aj o 0).2;have zg1:=(aj o 1).2;simp only[bt,aT,bx]at zz0 zz1 zz2;have v8:WV w8 (F (X w)) (I J 0) (I J 0) (U G 0 0):=(v.block _ O).trans HV5;obtain⟨y0,y1,y2,yf⟩:=v8.zero;have yf0:=yf 0;have yf1:=yf 1;have yf2:=yf 2;have rR:A≠(F (X w)):=O;have vL:F (X w)<F (X z):=O;have Gc:=H v;have SD:=H y;have ac2:=H (ajG y o oD);clear v y yf v8 o hSZ E Ez Np;generalize VD:lP l S K t (j S K d) d=L at*;have Gi:=H VD;clear VD
     cases gA:bK K t with
     |none=>rw[gA]at Yt;have KW:=H gA;clear gA;go_wp2_with fail;have Rr:=y0;have Rs:=y1;have Rt:=y2;obtain⟨q0,q1,q2⟩:=sS Rr Rs Rt (I J 2) (I J 0) (U T (Z L) W);refine bN (v:=Vt #[Va #[I J 2,I J 0,U T (Z L) W],I J 0]) (by simp[results,results26,go_sem,q0,q1,q2]) rfl ?_;have i:=ag yc;have v:Below (F (X w)) w w8:=i.trans (Gc.mono i.size);have hy:=uj.yes (w:=w) (rs:=D) (ps:=l) (s:=s) (limit:=(lim:Int)) (rea:=j) (w':=(Sc (Sc (Sc w8 (C (F (X w)) 0 G) (I J 2)) (C (F (X w)) 1 G) (I J 0)) (C (F (X w)) 2 G) (U T (Z L) W))) (a:=T) (c:=W) (O:=d) HL HP HV Dq HX.1 HX.2 Be.nodup pD.1 pD.2 (by rw[ag Gi];exact aX (CU SD vL _ _ _) O);rw[ag Gi,ag KW]at hy;exact⟨hy,((v.setCell L9 _).setCell L9 _).setCell L9 _⟩
     |some hh=>
      rw[gA]at Yt;have KW:=H gA;clear gA;go_wp2_with fail;have Rr:Ce (Sc (Sc w8 (C A 0 G) (I J 1)) (C A 1 G) (I J (hh:Nat))) (C (F (X w)) 0 G)=P (I J 0):=(by rw[j8 (w:=w8) (by rw[cx _ _ _ _ (oU rR.symm),cx _ _ _ _ (oU rR.symm)])];exact y0);have Rs:Ce (Sc (Sc w8 (C A 0 G) (I J 1)) (C A 1 G) (I J (hh:Nat))) (C (F (X w)) 1 G)=P (I J 0):=(by rw[j8 (w:=w8) (by rw[cx _ _ _ _ (oU rR.symm),cx _ _ _ _ (oU rR.symm)])];exact y1);have Rt:Ce (Sc (Sc w8 (C A 0 G) (I J 1)) (C A 1 G) (I J (hh:Nat))) (C (F (X w)) 2 G)=P (U G 0 0):=(by rw[j8 (w:=w8) (by rw[cx _ _ _ _ (oU rR.symm),cx _ _ _ _ (oU rR.symm)])];exact y2);obtain⟨q0,q1,q2⟩:=sS Rr Rs Rt (I J 1) (I J (hh:Nat)) (U T (Z L) W);refine bN (v:=Vt #[Va #[I J 1,I J (hh:Nat),U T (Z L) W],I J 0]) (by simp[results,results26,go_sem,q0,q1,q2]) rfl ?_;have i:=ag yc;have ah2:Ow (Sc (Sc w8 (C A 0 G) (I J 1)) (C A 1 G) (I J (hh:Nat))) (F (X z)) 5 1 (U T (Z L) W) (Z L) (L.map iQ):=gC SD (λg e=>by have:=ag ac2 g e;rw[cx _ _ _ _ (oU this),cx _ _ _ _ (oU this)]);have v:Below (F (X w)) w w8:=i.trans (Gc.mono i.size);have hy:=uj.yes (w:=w) (rs:=D) (ps:=l) (s:=s) (limit:=(lim:Int)) (rea:=j) (w':=(Sc (Sc (Sc (Sc (Sc w8 (C A 0 G) (I J 1)) (C A 1 G) (I J (hh:Nat))) (C (F (X w)) 0 G) (I J 1)) (C (F (X w)) 1 G) (I J (hh:Nat))) (C (F (X w)) 2 G) (U T (Z L) W))) (a:=T) (c:=W) (O:=d) HL HP HV Dq HX.1 HX.2 Be.nodup pD.1 pD.2 (by rw[ag Gi];exact aX (CU ah2 vL _ _ _) O)
      rw[ag Gi,ag KW]at hy;exact⟨hy,((((v.setCell (p:=(C A 0 G)) (show(F (X w))<=A by omega) _).setCell (p:=(C A 1 G)) (show(F (X w))<=A by omega) _).setCell L9 _).setCell L9 _).setCell L9 _⟩
end
def acr(s:B8)(w:W8)(q:B8)(limit:Int):Ending->W8->Prop:=λe w'=>∃rp:List PR,rp.map (·.R)=(dL s).2.2.1/\(∀r∈rp,r.bs.map (·.1)=r.R.body)/\vj w rp (bh s).2 q limit w' e/\Below (F (X w)) w w'
def acx(s:B8)(w:W8)(q:B8)(limit:Int):Ending->W8->Prop:=λe w'=>∃(S:Nat->Nat)(v:V9)(n:Nat),e=Vr (Vt #[v,I J (n:Nat)])/\kQ (bh s).2 (bT s).1 S/\oe (bh s).2 (bT s).1 S/\vk w (bh s).2 S (bT s).1 q limit w' v n/\Below (F (X w)) w w'
variable {b:B8}{c d e:Nat}{a f:W8}
def UN(h:jI b c d a e)(q)(v:q.size<=2000000)(w):Calls prog 20 #[Vp (P (C c 0 G)),Y q,I J w] a (acr b a q w):=by
 obtain⟨g,m,f⟩:=h.x;have l:=pL h.ok;obtain⟨o,j,k⟩:=l.pV;have s:∀r∈g,r.R∈(dL b).2.2.1:=λr t=>by rw[<-f];exact fW t
 have y:∀r∈g,r.bs.map (·.1)=r.R.body:=λr t=>by
  obtain⟨_,_,_,_,i⟩:=m;exact(i.aK r t).eq
 have i:∀r∈g,∀x∈r.bs,x.1∈r.R.body:=λr t x n=>by rw[<-y r t];exact fW n
 have u:Z g<=30:=by have:=l.len;rw[<-f,bF]at this;exact this
 have p:=AJ h.ok f y;refine(akr a e c g (bh b).2 q w (il (bh b).2) v m u (λr t=>by have:=l.body r.R (s r t);rw[<-y r t,bF]at this;exact this) (λr t=>l.pd r.R (s r t)) (λr t x n=>l.CL r.R (s r t) x.1 (i r t x n)) (by rw[f];exact l.Ei) (by rw[f];exact l.oz) (oF l.dc) (λr t=>⟨(l.named r.R (s r t)).1,λx n=>(l.named r.R (s r t)).2 x.1 (i r t x n)⟩) o (by rw[f];exact j) k (MZ p.dI) (λt n=>ab1 n)).mono ?_;rintro n r⟨t,x⟩;exact⟨g,f,y,t,x⟩
def M9(h:jI b c d a e):∃B n m o k S,sw a d B (bh b).2 n m o k S/\B.map (·.R)=(bT b).1/\kQ (bh b).2 (bT b).1 S/\oe (bh b).2 (bT b).1 S/\∀i,S i<=1000000:=by
 obtain⟨B,_,n,m,o,k,S,_,_,p,x,q,l,g,f,u⟩:=h.y;have j:=pL h.ok;subst f;rw[g]at q l;have f:∀r∈B,fm r.R∈(dL b).2.2.1:=λr s=>by
  rw[j.bB,<-g,km];exact aU.2 ⟨r,s,rfl⟩
 have y:∀r∈B,r.R∈(bT b).1:=λr s=>by rw[<-g];exact fW s
 have v:∀A:aR,qR A.ax (A.aq.map fV)->wu A:=λA w=>⟨by have:=w.pd.le;omega,λt z=>by
  have:=(w.ts (fV t) (aU.2 ⟨t,z,rfl⟩)).le;have z:(fV t).2=t.text:=rfl;rw[z]at this
  omega,by have:=w.dc;rw[bF]at this;exact this⟩
 refine⟨B,n,m,o,k,S,⟨p,x,λr s=>?_,λr s w t=>?_,λr s=>?_⟩,g,q,l,λi=>?_⟩
 .have A:=j.body _ (f r s);have z:=(p.aK r s).eq;simp only[fm]at A;rw[bF,z,bF]at A;exact A
 .have A:=PU b _ (f r s);rcases bS.1 t with rfl|t
  .exact v _ A.1
  exact v _ (A.2 (iL w) (aU.2 ⟨w,t,rfl⟩))
 .exact u _ (gh.2 ⟨r.R,y r s,bz⟩)
 obtain⟨_,r,s⟩:=j.pV;rw[j.bB]at r;have:=l _ (Q8 r u) i;have:=s (AE (bh b).2 i);omega
def afn(h:jI b c d a e)(q)(x:q.size<=2000000)(w):Calls prog 88 #[Vp (P (C d 0 G)),Y q,I J w] a (acx b a q w):=by obtain⟨p,r,o,t,s,S,k,j,f,g,l⟩:=M9 h;refine(akQ a d p (bh b).2 r o t s S k (λi _=>l i) q oM w).mono ?_;rintro m y⟨v,n,rfl,i,u⟩;rw[j]at i;exact⟨S,v,n,rfl,f,g,i,u⟩
variable {g:Int}{h:P9}
def vj.shape{s e}(d:vj a s h b g f e):∃w m c k,e=Vr (Vt #[U w m c,I J (k:Nat)]):=by
 cases d with
 |arg _=>exact⟨G,0,0,8,rfl⟩
 |ask _ _=>exact⟨G,0,0,6,rfl⟩
 |over _ _ _ _ _ _=>exact⟨G,0,0,7,rfl⟩
 |yes _ _ _ _ _ _ _ _ _=>exact⟨_,_,_,0,rfl⟩
def vk.shape{S s v}(d:vk a h S s b g f v c):∃w m n,v=U w m n:=by
 cases d with
 |arg _=>exact⟨G,0,0,rfl⟩
 |ask _ _ _=>exact⟨G,0,0,rfl⟩
 |over _ _ _ _=>exact⟨G,0,0,rfl⟩
 |yes _ _ _ _ _ d _ _=>obtain⟨w,n,e⟩:=aF d;exact⟨w,_,n,e⟩
def Ea.Es{wr g w b k j n}(h:Ea a f wr g (Vr (Vt #[U w e c,I J (k:Nat)])) (U b j d) n):k=n/\∃t,Z t<=50/\e=Z t/\j=Z t/\Ow f (F (X a)) 9 1 (U w e c) e (t.map Y)/\Ow g (F (X wr)) 9 1 (U b j d) (Z t) (t.map Y):=by
 generalize i:Vr (Vt #[U w e c,I J (k:Nat)])=m at h;generalize s:U b j d=v at h
 cases h with
 | @yes t y z B x r o=>
  simp only[LI,Md,DG,zN,G8,G7,BL,vf]at i;obtain⟨⟨rfl,rfl,rfl⟩,u⟩:=i;subst s;obtain⟨_,_,m⟩:=aF o;injection m with p l q
  exact⟨O,t,x,rfl,l,r,o⟩
 | @no A r o=>
  simp only[LI,Md,DG,zN,G8,G7,BL,vf]at i;obtain⟨⟨rfl,rfl,rfl⟩,u⟩:=i;injection s with p l q
  subst p l q;exact⟨O,[],oS,rfl,rfl,dm _ _ _ _,dm _ _ _ _⟩
open Go.Sort
variable {a:B8}{b:P9}
def Ek(h:(iZ b a&&lG (aJ a))=Bt):xa (bp (aJ a))/\(bp (aJ a)).2.length<=4:=by
 have q:vt a=true:=by unfold iZ at h;simp only[pE]at h;exact h.1.1
 have d:qR (pa (aJ a)).p (pa (aJ a)).ts:=Zv (q:=a) (by rw[PK,aD q]);refine⟨⟨d.pd,λx c=>?_⟩,by have:=d.dc;simpa[pa,bp]using this⟩;obtain⟨t,x,rfl⟩:=aU.1 c;exact d.ts (fV t) (aU.2 ⟨t,x,rfl⟩)
def ans{t}(h:xa t)(b:t.2.length<=4):fY t:=
 ⟨by have:=h.pd.le;show t.1.size<=_;omega,b,λx a=>by have:=(h.ts x a).le;omega,λx a=>(h.ts x a).ne⟩
def TL(t)(h:nW b a=P t):fY t:=by
 rw[QY]at h
 split at h
 .rename_i q;obtain rfl:=cI h;exact ans (Ek q).1 (Ek q).2
 cases h
def MK(h:(iZ b a&&lG (aJ a))=Bt):(fR (aJ a)).length<=1000000000:=by
 obtain⟨q,_⟩:=Ek h;have e:(fR (aJ a)).length=(gW (bp (aJ a)).1 (iP (bp (aJ a)))).length:=by have:=gQ (λx:B8=>Z x.data.toList) (sU (aJ a));simpa[bI,ep]using this
 generalize bp (aJ a)=t at*;have d:=JP (iP t) 0 (λx c=>by have:=(q.aq x c).le;omega);have c:(iP t).length=t.2.length:=by unfold iP;simp
 have x:=q.pd.le;have f:=mU t.1;rw[e];unfold gW;rw[br,br];have g:(if(iP t).length=0 then([]:List UInt8) else [41]).length<=1:=by split<;>simp
 have i:(iP t).length*1001<=4*1001:=yn _ O;omega
def TK{x}(h:x.data.toList=fR (aJ a)):x=ep (bp (aJ a)):=by rw[<-sU];unfold bI;rw[<-h]
variable {c:List PR}
def I5(h:(eK a).1=Bt)(s:c.map (·.R)=(dL a).2.2.1)(b:∀r∈c,r.bs.map (·.1)=r.R.body):yj (bT a).1 c:=by
 have g:=pL h;have e:c.map (·.R)=(bT a).1.map fm:=by rw[s,g.bB]
 have f:(bT a).1.length=Z c:=by have:=gQ Z e;simpa using this.symm
 refine⟨f,λi d r=>⟨?_,b _ (aN r)⟩⟩;have:=gQ (λl:List iu=>l[i]?) e;simp only[gP,dr d,dr r,ve,DS]at this;exact this
variable {d:List aP}
def Q9 :∀(b:List aR)(now:List kR)(m:Nat),(∀x∈now,x.2.length<=m/\∀z∈x.2,z<Z d)->∀y∈j6 d b now,y.2.length<=m+Z b/\∀z∈y.2,z<Z d
 | [],_,_,h,y,hy=>by simpa using h y hy
 |a::r,now,m,h,y,hy=>by
  rw[j6]at hy
  split at hy
  .have:=Q9 r now m h y hy;exact⟨by have:=this.1;simp;omega,this.2⟩
  have:=Q9 r (jy a d now) (m+1) (λx c=>by
   obtain⟨u,b,c⟩:=gh.1 c;obtain⟨_,_,_,_,rfl⟩:=AS d 0 c;have b:=h u b;refine⟨by simp;exact b.1,λz x=>?_⟩;rcases aS.1 x with x|x
   .exact b.2 z x
   rw[bu]at x
   omega) y hy
  exact⟨by have:=this.1;simp;omega,this.2⟩
variable {f:Nat}
def Q3(h:(eK a).1=Bt){S}(o:f<=50)(c:kH (bh a).2 S (bT a).1 f (jQ S (bh a).2.length) 0 [] (P d)):∀s∈d,Z s.fr<=3/\∀x∈s.fr,x<Z d:=by
 have g:=pL h;have m:=aaB o c (om.nil _ _ _) oS d rfl;intro s n;obtain⟨_,_,e,_,_,_,k⟩:=m.aK s n;obtain⟨R,b,_,⟨y,q,l,_⟩,_⟩:=k.has;have r:Z R.body<=3:=by have:=g.body (fm R) (by rw[g.bB];exact fW (tg b));simpa[fm]using this
 obtain⟨j,i⟩:=Q9 R.body [([],[])] 0 oS y (gI.1 q).1;rw[l]at j i;refine⟨O,λx p=>?_⟩;have:=i x p;rw[e,br];omega
noncomputable def CZ(ps:P9)(rp:List PR)(Sp:B8->Nat)(K:List (Th×Nat))(a:List Pl):Nat->Nat×List Nat:=open Classical in λi=>if h:(∃r,zU ps Sp rp K a r)/\i<(Z a) then h.1.choose i else(0,[])
variable {e:List (Th×Nat)}
def P5{Sp}(h:zU b Sp c e (d.map dj) (ki d)):CZ b c Sp e (d.map dj)=ki d:=by
 funext i
 unfold CZ
 split
 .rename_i a;have f:=a.1.choose_spec.vP i a.2;have g:=h.vP i a.2;obtain⟨K,l⟩:=f.Kj g;exact zP K l
 rename_i a;have:¬i<Z d:=λK=>a ⟨⟨_,h⟩,by simpa using K⟩
 unfold ki;rw[od O]
def akX{Sp}(h:zU b Sp c e (d.map dj) (ki d)):zU b Sp c e (d.map dj) (CZ b c Sp e (d.map dj)):=by rw[P5 h];exact h
def Kg(h:(eK a).1=Bt)(b:c.map (·.R)=(dL a).2.2.1)(d:∀r∈c,r.bs.map (·.1)=r.R.body){S}(D:kQ (bh a).2 (bT a).1 S)(i:oe (bh a).2 (bT a).1 S){Sp}(q:ll (c.map (·.R)) Sp)(t:og (c.map (·.R)) Sp){s}(w:s<=50)(z:mH (bh a).2 Sp f){r}(j:kH (bh a).2 S (bT a).1 s (jQ S (bh a).2.length) 0 [] r)(n:qt c Sp s f 0 [] (P e)):(∀k,0<=aL (bh a).2 k->Sp k=S (bH (bh a).2 k))/\∃l,r=P l/\(Z l)<=50/\ia (bh a).2 e l/\om (bh a).2 S (bT a).1 l/\∀m∈l,m.s=Sp (bp m.aH).1:=by
 have g:=pL h;have p:=AJ h b d;have y:=I5 h b d;have o:∀R∈(bT a).1,0<=aL (bh a).2 R.ay.ax:=λR p=>g.all _ (gh.2 ⟨R,p,bz⟩)
 have R:∀k,0<=aL (bh a).2 k->Sp k=S (bH (bh a).2 k):=λk K=>by
  rw[b,g.bB]at q t;exact F0 g.all D i q t k K
 rcases C9 p g.xD o R w z j n with⟨_,K⟩|⟨l,_,rfl,x,k,_⟩
 .cases K
 obtain rfl:=cI x;have u:=aaB w j (om.nil _ _ _) oS l rfl;refine⟨R,l,rfl,O,k,u,λm v=>?_⟩;obtain⟨_,_,_,_,_,_,B,_⟩:=u.vP p y k v
 have A:0<=aL (bh a).2 m.aH.ax:=vT.1 (by
  have:bE (bh a).2 m.aH.ax=P (bp m.aH).2.length:=(k.dI m v).bn
  rw[this];rfl)
 rw[B];exact(R _ A).symm
def aiV(n):(rW n).length=1+n.2.length:=by unfold rW;simp;omega
def Y2{m:Nat}:∀(y:List (Nat×List Nat)),(∀x∈y,x.2.length<=m)->(y.flatMap rW).length<=Z y*(1+m)
 | [],_=>by simp
 |x::r,h=>by
  have b:=Y2 r (λy a=>h y (bG _ a));have a:=h x bz;rw[lY,br,aiV,ff,wT];omega
def UQ{ps S K t b a}(h:∀i,i<Z a->(b i).2.length<=3)(d:Z a<=50):(lP ps S K t b a).length<=1000:=by have i:=US ps S K t b a;have c:=Y2 (m:=3) (yH ps S K t b a) (UR h);unfold lP yF;simp only[ff];omega
inductive A6 (w w' wr xU:W8):Ending->V9->Nat->Prop
 |mk {v h:Int} {n:Nat} {bs:List Nat} {a b:O8} {c d:Nat}:Z bs<=1000->Ow w' (F (X w)) 5 1 (U a (Z bs) c) (Z bs) (bs.map iQ)->Ow xU (F (X wr)) 5 1 (U b (Z bs) d) (Z bs) (bs.map iQ)->A6 w w' wr xU (Vr (Vt #[Va #[I J v,I J h,U a (Z bs) c],I J (n:Nat)])) (jV v h (U b (Z bs) d)) n
def A6.no(w b wr a n):A6 w b wr a (Vr (Vt #[Va #[I J 0,I J 0,U G 0 0],I J (n:Nat)])) (jV 0 0 (U G 0 0)) n:=
 .mk (bs:=[]) oS (dm _ _ _ _) (dm _ _ _ _)
def UX{q}(h:(eK a).1=Bt)(A:c.map (·.R)=(dL a).2.2.1)(L:∀r∈c,r.bs.map (·.1)=r.R.body){S}(hv:kQ (bh a).2 (bT a).1 S)(z:oe (bh a).2 (bT a).1 S){V w w' wr xU e v}(hP:uj w c (bh a).2 q V (CZ (bh a).2 c) w' e)(hQ:qe wr (bh a).2 S (bT a).1 q V xU v f):A6 w w' wr xU e v f:=by
 have g:=pL h;have hR:=AJ h A L;have hI:=I5 h A L;have E:=QY (bh a).2 q;have hl:∀{l:Int},my l=Bt->1<=l/\l<=50:=λh=>Fp h
 have N2:∀{l:Int},my l=Bf->¬(1<=l/\l<=50):=λh rp=>by
  unfold my at h;simp at h;omega
 cases hP with
 |arg h1=>
  have:=N2 h1
  cases hQ with
  |arg _=>exact .no _ _ _ _ 8
  |ask s b _=>exact absurd ⟨s,b⟩ this
  |over s b _ _=>exact absurd ⟨s,b⟩ this
  |out s b _ _ _ _ _ _ _=>exact absurd ⟨s,b⟩ this
  |yes s b _ _ _ _ _ _ _=>exact absurd ⟨s,b⟩ this
 |ask h1 o=>
  have:=hl h1;rw[E]at o
  cases hQ with
  |arg s=>omega
  |ask _ _ _=>exact .no _ _ _ _ 6
  |over _ _ rp _=>rw[aD rp]at o;cases o
  |out _ _ rp _ _ _ _ _ _=>rw[aD rp]at o;cases o
  |yes _ _ rp _ _ _ _ _ _=>rw[aD rp]at o;cases o
 |over h1 o T Q hc B=>
  have:=hl h1;rw[E]at o;have t:∀R∈(bT a).1,0<=aL (bh a).2 R.ay.ax:=λR hR=>g.all _ (gh.2 ⟨R,hR,bz⟩)
  have p:=λk hk=>by
   have R:=T;have r:=Q;rw[A,g.bB]at R r;exact F0 g.all hv z R r k hk
  cases hQ with
  |arg s=>omega
  |ask _ _ rp=>rw[rp]at o;cases o
  |over _ _ _ _=>exact .no _ _ _ _ 7
  |out _ _ _ r _ _ _ _ _=>rcases C9 hR g.xD t p O hc r B with⟨e,_⟩|⟨_,_,_,e,_⟩<;>cases e
  |yes _ _ _ r _ _ _ _ _=>rcases C9 hR g.xD t p O hc r B with⟨e,_⟩|⟨_,_,_,e,_⟩<;>cases e
 | @yes t Sp m K R s rp h1 o T Q hc B vI hO za j=>
  have:=hl h1;rw[E]at o
  cases hQ with
  |arg s=>omega
  |ask _ _ rp=>rw[rp]at o;cases o
  |over _ _ _ r=>
   obtain⟨_,l,e,_⟩:=Kg h A L hv z T Q O hc r B
   cases e
  | @out l k x b d _ _ ku r M hx EN hk y=>
   obtain⟨p,l1,e1,-,W,hT,hs⟩:=Kg h A L hv z T Q O hc r B;obtain rfl:=cI e1;rw[aD ku]at o;obtain rfl:=cI o;obtain⟨rfl,D⟩:=QZ hR hI W hT hs hO za;rw[P5 D]at j⊢;have u:bK K (bp (aJ q))=none:=by
    cases i:bK K (bp (aJ q)) with
    |none=>rfl
    |some f=>obtain⟨n,hf,N⟩:=(W.look _).1 (by rw[i];rfl);refine absurd ?_ ((yL l x).1 EN n hf);rw[W.text n hf,N,TK hx]
   have Xu:kj (bh a).2 Sp K (bp (aJ q))=k:=by
    unfold kj;rw[hk,u,show(bp (aJ q)).1=(aJ q).ax from rfl]
    by_cases N:0<=aL (bh a).2 (aJ q).ax
    .rw[aD (vT.2 N),aD N];exact gQ (·+1) (p _ N)
    rw[aB (λrp=>N (vT.1 rp)),aB N]
   have he:=afD hR hI W hT (Sp:=Sp) u;rw[Xu]at he;rw[u];have N:=UQ (ps:=(bh a).2) (S:=Sp) (K:=K) (t:=bp (aJ q)) (λi hi=>D.len i hi) (oU M);rw[he]at j N⊢;exact .mk (v:=2) (h:=0) (n:=0) N j y
  | @yes l n x b d _ _ ku r M hx u hf y=>
   obtain⟨p,l1,e1,-,W,hT,hs⟩:=Kg h A L hv z T Q O hc r B;obtain rfl:=cI e1;rw[aD ku]at o;obtain rfl:=cI o;obtain⟨rfl,D⟩:=QZ hR hI W hT hs hO za;rw[P5 D]at j⊢;have ht:bp l[n].aH=bp (aJ q):=by obtain⟨_,h5⟩:=U1 u;rw[W.text _ (aN hf),TK hx]at h5;exact zq (W.dI _ (aN hf)).w (Ek ku).1 h5
   obtain⟨Xu,gA,he⟩:=afC W hs hf ht;have IM:lH l n=l[n].h:=(by unfold lH;rw[dr hf];rfl);have N:=UQ (ps:=(bh a).2) (S:=Sp) (K:=K) (t:=bp (aJ q)) (λi hi=>D.len i hi) (oU M);rw[gA];rw[he]at j N⊢;rw[IM];exact .mk (v:=1) (h:=(l[n].h:Nat)) (n:=0) N j y
def UW(w o rs y rv pv tv gs S)(hC:sw w o rs y rv pv tv gs S)(hS:∀i,i<Z y->S i<=1000000)(s)(pN:s.size<=maxLen)(d)(hlen:(iZ y s&&lG (aJ s))=Bt->(fR (aJ s)).length<=1000000000)(sE:1<=d->d<=50->∀l,kH y S (rs.map (·.R)) d.toNat (jQ S (Z y)) 0 [] (P l)->∀f∈l,Z f.fr<=3/\∀x∈f.fr,x<Z l):Calls prog 91 #[Vp (P (C o 0 G)),Y s,I J d] w (abI w y S (rs.map (·.R)) s d):=by
 have HC:=H hC;have HS:=H hS;have ue:=H sE;have KV:=H hlen;have k0:Below (F (X w)) w (Al w (Vc #[I J 0,I J 0,U G 0 0] 49)):=B9.alloc L9 _;have v0:WV (Al w (Vc #[I J 0,I J 0,U G 0 0] 49)) (F (X w)) (I J 0) (I J 0) (U G 0 0):=aG w _;have s0:(Al w (Vc #[I J 0,I J 0,U G 0 0] 49)).heap.size=F (X w)+1:=oS
 clear hC hS sE hlen;go_in;go_upto_region 1 with fail;generalize(Al w (Vc #[I J 0,I J 0,U G 0 0] 49))=w0 at*;obtain⟨z0,z1,z2,n⟩:=v0.zero;have nw:=n 0;have qc:=n 1;have qd:=n 2;have RT:=H ((ag HC).ai k0);have Ln:=H v0;have mW:=H k0;have oa:=H s0;clear k0 v0 s0 n
 by_cases h1:d<1\/50<d
 .have a:=H h1
  by_cases h2:d<1
  .clear h1;go_wp2_with fail;obtain⟨q0,q1,q2⟩:=sS z0 z1 z2 (I J 0) (I J 0) (U G 0 0);refine bN (v:=Vt #[jV 0 0 (U G 0 0),I J 8]) (by simp[jV,results,results91,go_sem,q0,q1,q2]) rfl ?_;exact⟨_,8,rfl,.arg (ag a),(((ag mW).setCell L9 _).setCell L9 _).setCell L9 _⟩
  have h3:50<d:=O
  clear h1;go_wp2_with fail;obtain⟨q0,q1,q2⟩:=sS z0 z1 z2 (I J 0) (I J 0) (U G 0 0);refine bN (v:=Vt #[jV 0 0 (U G 0 0),I J 8]) (by simp[jV,results,results91,go_sem,q0,q1,q2]) rfl ?_;exact⟨_,8,rfl,.arg (ag a),(((ag mW).setCell L9 _).setCell L9 _).setCell L9 _⟩
 obtain⟨k,rfl⟩:∃k:Nat,d=k:=⟨d.toNat,O⟩;have g1:1<=(k:Int):=O
 have g2:(k:Int)<=50:=O
 have g3:¬50<(k:Int):=O
 have g4:¬(k:Int)<1:=O
 clear h1 z0 z1 z2 nw qc qd;go_upto_region 3 with fail;go_wp2_with fail;refine(MI w0 o rs y rv pv tv _ (ag RT).prog s pN).mono ?_;rintro e w1⟨v,rfl,xk⟩;obtain⟨aa,ca,rfl⟩:=aF xk.row;have uG:=ag oa;have uC:=xk.ai;have Ot:=uC.size;have qD:Below (F (X w0)) w0 (Al w1 (Vc #[Y (aJ s).ax,U aa (aJ s).aq.length ca,Vb (aJ s).no,I J (aJ s).aC,I J (aJ s).aO] 243)):=uC.alloc Ot _;have yQ:(Al w1 (Vc #[Y (aJ s).ax,U aa (aJ s).aq.length ca,Vb (aJ s).no,I J (aJ s).aC,I J (aJ s).aO] 243)).heap[F (X w1)]?=P (Vc #[Y (aJ s).ax,U aa (aJ s).aq.length ca,Vb (aJ s).no,I J (aJ s).aC,I J (aJ s).aO] 243):=aG w1 _;have Xc:=xk.row.alloc (Vc #[Y (aJ s).ax,U aa (aJ s).aq.length ca,Vb (aJ s).no,I J (aJ s).aC,I J (aJ s).aO] 243);have cB:(Al w1 (Vc #[Y (aJ s).ax,U aa (aJ s).aq.length ca,Vb (aJ s).no,I J (aJ s).aC,I J (aJ s).aO] 243)).heap.size=F (X w1)+1:=oS
 have K8:=H Xc;have xZ:=H qD;have HAT:=H yQ;have GC:=H (And.intro cB Ot);clear xk qD yQ Xc cB uC Ot uG;unfold aR.val;go_upto_region 4 with fail;generalize(Al w1 (Vc #[Y (aJ s).ax,U aa (aJ s).aq.length ca,Vb (aJ s).no,I J (aJ s).aC,I J (aJ s).aO] 243))=W at*;obtain⟨ab,Iw⟩:∃ab,ab=F (X w1):=⟨_,rfl⟩;have HAB:=H Iw;rw[<-Iw];have t:W.heap[ab]?=P (Vc #[Y (aJ s).ax,U aa (aJ s).aq.length ca,Vb (aJ s).no,I J (aJ s).aC,I J (aJ s).aO] 243):=by rw[Iw];exact ag HAT
 have a0:=(aj t 0).1;have a1:=(aj t 1).1;have a2:=(aj t 2).1;have a3:=(aj t 3).1;have a4:=(aj t 4).1;simp only[bt,aT,bx]at a0 a1 a2 a3 a4;have RO:=H t;clear Iw t;go_wp2_with fail;refine(Vo W _ (aJ s) aa ca (ag K8)).mono ?_;rintro e w2⟨rfl,ow⟩;have uG:=ag oa;have CB:=ag GC;have uH:=ow.size;have sD:=(ag xZ).trans (ow.mono (ag xZ).size);have Vx:Below (F (X w)) w w2:=(ag mW).trans (sD.mono O);have v3:WV w2 (F (X w)) (I J 0) (I J 0) (U G 0 0):=(sD.block _ O).trans (ag Ln);have Vy:=(ag RT).ai sD;have VR:=(ow.block ab (aM.1 (ag RO)).1).trans (ag RO);have Xd:=aQ (ag K8) ow (λg e=>((ag K8).lt g e).2);have uU:=H sD;have A8:=H Vx;have SM:=H v3;have zx:=H Vy;have RM:=H VR;have SB:=H Xd;have lL:=H (show(F (X w))+1=F (X w0)/\(F (X w0))<=ab/\ab+1<=(F (X w2)) from by have:=ag HAB;omega);obtain⟨z0,z1,z2,n⟩:=v3.zero;have nw:=n 0;have qc:=n 1;have qd:=n 2;clear sD Vx v3 Vy VR Xd ow uG CB uH n a0 a1 a2 a3 a4
 cases ku:iZ y s with
 |false=>have A:=H (show(iZ y s&&lG (aJ s))=Bf by rw[ku];rfl);clear ku;go_wp2_with fail;obtain⟨q0,q1,q2⟩:=sS z0 z1 z2 (I J 0) (I J 0) (U G 0 0);refine bN (v:=Vt #[jV 0 0 (U G 0 0),I J 6]) (by simp[jV,results,results91,go_sem,q0,q1,q2]) rfl ?_;exact⟨_,6,rfl,.ask g1 g2 (ag A),(((ag A8).setCell L9 _).setCell L9 _).setCell L9 _⟩
 |true=>
  cases IG:lG (aJ s) with
  |false=>have A:=H (show(iZ y s&&lG (aJ s))=Bf by rw[IG,Bool.and_false]);clear ku IG;go_wp2_with fail;obtain⟨q0,q1,q2⟩:=sS z0 z1 z2 (I J 0) (I J 0) (U G 0 0);refine bN (v:=Vt #[jV 0 0 (U G 0 0),I J 6]) (by simp[jV,results,results91,go_sem,q0,q1,q2]) rfl ?_;exact⟨_,6,rfl,.ask g1 g2 (ag A),(((ag A8).setCell L9 _).setCell L9 _).setCell L9 _⟩
  |true=>
   have A:=H (show(iZ y s&&lG (aJ s))=Bt by rw[ku,IG];rfl);clear ku IG z0 z1 z2 nw qc qd;go_upto_region 7 with fail;go_wp2_with fail;refine(Pg w2 o rs y rv pv tv gs S (ag zx) (ag HS) k O).mono ?_;rintro e w3⟨v,b,rfl,hO⟩
   cases hO with
   |no m hN=>have L:=H ((ag A8).trans (m.mono (ag A8).size));have a:=H hN;obtain⟨z0,z1,z2,n⟩:=((ag SM).ai m).zero;have nw:=n 0;have qc:=n 1;have qd:=n 2;clear m hN n;go_wp2_with fail;obtain⟨q0,q1,q2⟩:=sS z0 z1 z2 (I J 0) (I J 0) (U G 0 0);refine bN (v:=Vt #[jV 0 0 (U G 0 0),I J 7]) (by simp[jV,results,results91,go_sem,q0,q1,q2]) rfl ?_;exact⟨_,7,rfl,.over g1 g2 (ag A) (oU (ag a)),(((ag L).setCell L9 _).setCell L9 _).setCell L9 _⟩
   |yes hI hl hY=>
    rename_i c;obtain⟨al,cl,rfl⟩:=aF hI.bV.row;have m:=hI.ai;have vM:=m.size;have L:=H ((ag A8).trans (m.mono (ag A8).size));have Dz:=H ((ag SM).ai m);have wz:=H ((ag zx).ai m);have VS:=(m.block ab (aM.1 (ag RM)).1).trans (ag RM);have Xe:=aQ (ag SB) m (λg e=>((ag SB).lt g e).2);have Gk:=H (ag ue g1 g2 _ (oU hY));have HY:=H hY;have HI:=H hI;have Gb:=H VS;have SC:=H Xe;have yi:=H vM;have vH:=OW (Z c) O;clear hI hY m VS Xe vM;go_upto_region 11 with fail
    have Is:kN w3 (Z c) (λ_=>Bf) (Al w3 (Vc (madeCells #[Vb Bf] (Z c)) 4)):=⟨B9.alloc L9 _,by
     have h1:gd (Al w3 (Vc (madeCells #[Vb Bf] (Z c)) 4)) (F (X w3)) 4 (Z c) (λ_=>Vb Bf):=gd.start _ _ _ _
     exact⟨h1.lt,λi hi=>h1.cell hi,λj=>h1.fz j⟩⟩
    generalize(Al w3 (Vc (madeCells #[Vb Bf] (Z c)) 4))=w4 at*;clear vH;have m:=Is.ai;have vM:=ag yi;have r:=(m.block ab (aM.1 (ag Gb)).1).trans (ag Gb);have Xf:=aQ (ag SC) m (λg e=>((ag SC).lt g e).2);have a0:=(aj r 0).1;have a1:=(aj r 1).1;have a2:=(aj r 2).1;have a3:=(aj r 3).1;have a4:=(aj r 4).1;simp only[bt,aT,bx]at a0 a1 a2 a3 a4;have KL:=H Is;have ac3:=H Xf;have RN:=H r;clear Is m r Xf vM;go_wp2_with fail;refine(aa6 w4 _ (aJ s) aa ca (ag ac3) (ag KV (ag A))).mono ?_;rintro e w5⟨xt,rfl,XE,IA⟩;have Q:kN w3 (Z c) (λ_=>Bf) w5:=⟨(ag KL).ai.trans (IA.mono (ag KL).ai.size),(ag KL).row.ai IA⟩;have Wn:=(ag HI).bV.ai Q.ai;have VT:=(IA.block ab (aM.1 (ag RN)).1).trans (ag RN);have Gh:=H Q;have Ls:=H XE;have KP:=H Wn;have abN:=H VT;clear Q XE Wn IA VT a0 a1 a2 a3 a4;go_wp2_with fail;refine(yK w5 _ al cl c xt (ag KP).row).mono ?_;rintro e w6⟨rfl,hw⟩;have hw:=hw.symm;subst hw
    by_cases EN:dp (c.map (·.F)) xt<0
    .have Dr:=H EN;have a0:=(aj (ag abN) 0).1;simp only[bt,aT]at a0;have Vz:=(ag wz).ai (ag Gh).ai;have A9:=H Vz;clear Vz;go_upto_region 14 with fail;go_wp2_with fail;refine(sP w5 o rs y rv pv tv _ (aJ s).ax (ag A9).prog).mono ?_;rintro e w6⟨rfl,hw⟩;have hw:=hw.symm;subst hw;clear a0 EN;have M:=H (ag HI).bV
     by_cases hq:0<=aL y (aJ s).ax
     .have hql:=mS hq;have Dl:=H (show S (aL y (aJ s).ax).toNat+1=(if 0<=aL y (aJ s).ax then S (aL y (aJ s).ax).toNat+1 else 0) by rw[aD hq]);obtain⟨q,Oj⟩:∃q:Nat,aL y (aJ s).ax=q:=⟨(aL y (aJ s).ax).toNat,O⟩;rw[Oj]at hql Dl hq⊢;have Oi:q<Z y:=(oU hql);have W3:(q:Int)<Z y:=O;have p3:=(ag A9).prog.c3;have sc:=(ag A9).sf.cell q Oi;have IZ:=ag HS q Oi;have HQE:=H Oj;clear Oj hql;go_wp2_with fail;rw[show((S q:Nat):Int)+1=((S q+1:Nat):Int) from by omega];refine UT w3 w5 (F (X w2)) (S q+1) al cl c (ag M) O (λ_=>Bf) (ag Gh) ?_;intro w6;intros;rename_i E;have z:=H E;have Bo:=H (Rj w6 (F (X w2)) (F (X w3)) (S q+1) al cl c (λi=>decide (lS (c.map (·.F)) i<(S q+1))) ((ag M).ai E.ai) E.row O (λa hF=>by have:=ag Gk a.F (fW hF);simpa using this));clear E;go_wp2_with fail;refine(ag Bo).mono ?_;rintro e w7⟨wv,rfl,j,EE⟩;obtain⟨B,D,rfl⟩:=aF j;generalize R:(lU (S q+1) (c.map (·.F)) (λi=>decide (lS (c.map (·.F)) i<(S q+1))))=T at j⊢;have N:=H R;clear R;have p:=(ag z).ai.trans (EE.mono (ag z).ai.size);obtain⟨z0,z1,z2,n⟩:=((ag Dz).ai p).zero;have nw:=n 0;have qc:=n 1;have qd:=n 2;have KB:=H ((ag L).trans (p.mono (ag L).size));have u:F (X w)<F (X w6):=(by have:=ag lL;have:=ag yi;have:=(ag z).ai.size;omega);have K5:=H (CU j u (I J 2) (I J 0) (U B (Z T) D));have KX:=H u;clear j EE p n u;go_wp2_with fail;obtain⟨q0,q1,q2⟩:=sS z0 z1 z2 (I J 2) (I J 0) (U B (Z T) D);refine bN (v:=Vt #[jV 2 0 (U B (Z T) D),I J 0]) (by simp[jV,results,results91,go_sem,q0,q1,q2]) rfl ?_;have hy:=qe.out (w:=w) (w':=(Sc (Sc (Sc w7 (C (F (X w)) 0 G) (I J 2)) (C (F (X w)) 1 G) (I J 0)) (C (F (X w)) 2 G) (U B (Z T) D))) (k:=(S q+1)) (a:=B) (c:=D) g1 g2 (ag A) (oU (ag HY)) oT (ag Ls) (ag Dr) (by rw[ag HQE,aD O];rfl) (by rw[ag N];exact aX (ag K5) (DQ (ag KX)))
      rw[ag N]at hy;exact⟨_,0,rfl,hy,(((ag KB).setCell L9 _).setCell L9 _).setCell L9 _⟩
     have HQN:=H hq;have Oi:aL y (aJ s).ax<0:=O;generalize W1:aL y (aJ s).ax=pq at*;have K1:=H W1;clear W1;go_wp2_with fail;refine UT w3 w5 (F (X w2)) 0 al cl c (ag M) O (λ_=>Bf) (ag Gh) ?_;intro w6;intros;rename_i E;have z:=H E;have Bo:=H (Rj w6 (F (X w2)) (F (X w3)) 0 al cl c (λi=>decide (lS (c.map (·.F)) i<0)) ((ag M).ai E.ai) E.row O (λa hF=>by have:=ag Gk a.F (fW hF);simpa using this));clear E;go_wp2_with fail;refine(ag Bo).mono ?_;rintro e w7⟨wv,rfl,j,EE⟩;obtain⟨B,D,rfl⟩:=aF j;generalize R:(lU 0 (c.map (·.F)) (λi=>decide (lS (c.map (·.F)) i<0)))=T at j⊢;have N:=H R;clear R;have p:=(ag z).ai.trans (EE.mono (ag z).ai.size);obtain⟨z0,z1,z2,n⟩:=((ag Dz).ai p).zero;have nw:=n 0;have qc:=n 1;have qd:=n 2;have KB:=H ((ag L).trans (p.mono (ag L).size));have u:F (X w)<F (X w6):=(by have:=ag lL;have:=ag yi;have:=(ag z).ai.size;omega);have K5:=H (CU j u (I J 2) (I J 0) (U B (Z T) D));have KX:=H u;clear j EE p n u;go_wp2_with fail;obtain⟨q0,q1,q2⟩:=sS z0 z1 z2 (I J 2) (I J 0) (U B (Z T) D);refine bN (v:=Vt #[jV 2 0 (U B (Z T) D),I J 0]) (by simp[jV,results,results91,go_sem,q0,q1,q2]) rfl ?_;have hy:=qe.out (w:=w) (w':=(Sc (Sc (Sc w7 (C (F (X w)) 0 G) (I J 2)) (C (F (X w)) 1 G) (I J 0)) (C (F (X w)) 2 G) (U B (Z T) D))) (k:=0) (a:=B) (c:=D) g1 g2 (ag A) (oU (ag HY)) oT (ag Ls) (ag Dr) (by rw[ag K1,aB (oF (ag HQN))]) (by rw[ag N];exact aX (ag K5) (DQ (ag KX)));rw[ag N]at hy;exact⟨_,0,rfl,hy,(((ag KB).setCell L9 _).setCell L9 _).setCell L9 _⟩
    have M:=H (ag HI).bV;obtain⟨f,Cf⟩:∃f:Nat,dp (c.map (·.F)) xt=f:=⟨(dp (c.map (·.F)) xt).toNat,O⟩;have kK:f<Z c:=(by obtain⟨h,_⟩:=U1 Cf;simpa using h);have HFE:=H Cf;rw[Cf]at EN⊢;have Ad:(f:Int)<Z c:=O;have Q:=ag Gh;have V7:=Q.row.cell f kK;have Fh:=Q.row.fz f;have z:=H (Q.set f Bt kK);have hg:∃g,al=P (C g 0 G):=by
     rcases(ag M).row.2 with⟨_,q⟩|⟨g,cap,j,hv,_⟩
     .omega
     injection hv with h1 _ _
     exact⟨g,h1⟩
    obtain⟨g,rfl⟩:=hg;clear Cf Q;go_wp2_with fail;generalize Sc w5 (C (F (X w3)) f G) (Vb Bt)=w6 at*;refine afB w3 w6 (F (X w2)) g f cl c (ag M) O kK (λa hF x hx=>by have:=(ag Gk a.F (fW hF)).2 x hx;simpa using this) (ea (λ_=>Bf) f Bt) (ag z) ?_;intro w7;intros;rename_i p;have NM:=(ag M).ai p.ai;obtain⟨g',cap,hv,V1,qE,yY,Ab,hc⟩:=qB NM.row kK;injection hv with h1 h2 h3
    injection h1 with h1
    injection h1 with h1
    subst h1 h3;have p6:=hc 6 O;have p7:=hc 7 O;simp only[FG.cells,aT,bx]at p6 p7;have N7:c[f].F.s=lS (c.map (·.F)) f:=(by unfold lS;rw[gP,dr kK];rfl);have IM:c[f].F.h=lH (c.map (·.F)) f:=(by unfold lH;rw[gP,dr kK];rfl);rw[N7]at p6;rw[IM]at p7;have Xt:(F (X w))≠g:=by have:=ag lL;omega
    have HA:=H (λ(V:W8)(hV:∀i,i<F (X w7)->i≠(F (X w))->V.heap[i]?=w7.heap[i]?)=>(show V.cell? (C g (f*10+6) G)=P (I J (lS (c.map (·.F)) f:Nat))/\V.cell? (C g (f*10+7) G)=P (I J (lH (c.map (·.F)) f:Nat)) from
     ⟨(j8 (a:=(C g (f*10+6) G)) (hV g qE (λe=>Xt e.symm))).trans p6,(j8 (a:=(C g (f*10+7) G)) (hV g qE (λe=>Xt e.symm))).trans p7⟩))
    have Bo:=H (λ(V:W8)(hV:Below (F (X w7)) w7 V)=>Rj V (F (X w2)) (F (X w3)) (lS (c.map (·.F)) f) (P (C g 0 G)) cl c (rS (c.map (·.F)) (lS (c.map (·.F)) f) (Z c) (ea (λ_=>Bf) f Bt)) (NM.ai hV) (p.row.ai hV) O (λa hF=>by have:=ag Gk a.F (fW hF);simpa using this));have Ez:=ag HA w7.drew (λi _ _=>rfl);have KM:=H p;clear p NM hc N7 IM h2 p6 p7;generalize R:(lU (lS (c.map (·.F)) f) (c.map (·.F)) (rS (c.map (·.F)) (lS (c.map (·.F)) f) (Z c) (ea (λ_=>Bf) f Bt)))=T at*;have N:=H R;clear R;generalize VL:lS (c.map (·.F)) f=LS at*;generalize VK:lH (c.map (·.F)) f=LH at*;have Sn:=H VL;have HLH:=H VK;clear VL VK;go_upto_region 31 with fail;refine wp_region_held_drew (S:=λV=>V.cell? (C g (f*10+6) G)=P (I J (LS:Nat))/\V.cell? (C g (f*10+7) G)=P (I J (LH:Nat))) oK Ez (λhHeld=>?_);refine K9 0 (U (P (C g 0 G)) (Z c) cl) rfl oG hHeld ?_;refine K9 1 (I J (f:Nat)) rfl oG hHeld ?_;refine K9 2 (Vp (P (C g (f*10) G))) rfl oG hHeld ?_;refine K9 3 (Vp (P (C g (f*10+7) G))) rfl oG hHeld ?_;refine K9 4 (I J (LH:Nat)) rfl (Or.inl ⟨by rfl,λV hV=>by obtain⟨m6,m7⟩:=hV;go_simp⟩) hHeld ?_;refine K9 5 (U (P (C g 0 G)) (Z c) cl) rfl oG hHeld ?_;refine K9 6 (I J (f:Nat)) rfl oG hHeld ?_;refine K9 7 (Vp (P (C g (f*10) G))) rfl oG hHeld ?_;refine K9 8 (Vp (P (C g (f*10+6) G))) rfl oG hHeld ?_;refine K9 9 (I J (LS:Nat)) rfl (Or.inl ⟨by rfl,λV hV=>by obtain⟨m6,m7⟩:=hV;go_simp⟩) hHeld ?_;refine K9 10 (U (P (C g 0 G)) (Z c) cl) rfl oG hHeld ?_
    refine K9 11 (U (P (C (F (X w3)) 0 G)) (Z c) (Z c)) rfl oG hHeld ?_;refine wpAnyH_ready (rs:=[12]) oK oS ?_;refine AllReadyH.cons rfl (λK hK=>?_) AllReadyH.nil
    go_simp
    refine(ag Bo _ B9.drew).mono ?_;rintro e w8⟨wv,rfl,On,VW⟩;obtain⟨B,D,rfl⟩:=aF On;have Ir:=jB VW;have Nv:=ag HA w8 (λi hi _=>Ir.block i hi);have Ns:=(ag KM).ai.trans (Ir.mono (ag KM).ai.size);obtain⟨z0,z1,z2,n⟩:=((ag Dz).ai Ns).zero;have nw:=n 0;have qc:=n 1;have qd:=n 2;have Gc:=H ((ag L).trans (Ns.mono (ag L).size));have N8:F (X w)<F (X w7):=(by have:=ag lL;have:=ag yi;have:=(ag KM).ai.size;omega);have HR8:=H (CU On N8 (I J 1) (I J (LH:Nat)) (U B (Z T) D));have abX:=H N8;have HS9:=H (ag HA (Sc (Sc (Sc w8 (C (F (X w)) 0 G) (I J 1)) (C (F (X w)) 1 G) (I J (LH:Nat))) (C (F (X w)) 2 G) (U B (Z T) D)) (λi hi hn=>by rw[cx _ _ _ _ (oU hn),cx _ _ _ _ (oU hn),cx _ _ _ _ (oU hn)];exact Ir.block i hi));refine hK.out _ _ Nv (λ_=>?_);clear hK K On VW Ns n N8 Ir hHeld Ez HA Bo;refine K9 13 (Va #[I J 1,I J (LH:Nat),U B (Z T) D]) rfl oG Nv ?_;refine wpAnyH_ready (rs:=[14]) oK oS ?_;refine AllReadyH.cons rfl (λK hK=>?_) AllReadyH.nil
    go_simp
    refine hK.out _ _ (ag HS9) (λhH9=>?_);clear hK K;refine K9 15 (I J 0) rfl oG hH9 ?_;refine wpAnyH_done oK ?_ _;clear hH9 Nv;go_wp2_with fail;obtain⟨q0,q1,q2⟩:=sS z0 z1 z2 (I J 1) (I J (LH:Nat)) (U B (Z T) D);refine bN (v:=Vt #[jV 1 (LH:Nat) (U B (Z T) D),I J 0]) (by simp[jV,results,results91,go_sem,q0,q1,q2]) rfl ?_;have hy:=qe.yes (w:=w) (w':=(Sc (Sc (Sc w8 (C (F (X w)) 0 G) (I J 1)) (C (F (X w)) 1 G) (I J (LH:Nat))) (C (F (X w)) 2 G) (U B (Z T) D))) (f:=f) (a:=B) (c:=D) g1 g2 (ag A) (oU (ag HY)) oT (ag Ls) (ag HFE) (oU kK) (by rw[ag Sn,bF,ag N];exact aX (ag HR8) (DQ (ag abX)));rw[ag Sn,bF,ag N,ag HLH]at hy;exact⟨_,0,rfl,hy,(((ag Gc).setCell L9 _).setCell L9 _).setCell L9 _⟩
def acq(s:B8)(w:W8)(q:B8)(limit:Int):Ending->W8->Prop:=λe w'=>∃rp:List PR,rp.map (·.R)=(dL s).2.2.1/\(∀r∈rp,r.bs.map (·.1)=r.R.body)/\uj w rp (bh s).2 q limit (CZ (bh s).2 rp) w' e/\Below (F (X w)) w w'
def acw(s:B8)(w:W8)(q:B8)(limit:Int):Ending->W8->Prop:=λe w'=>∃(S:Nat->Nat)(v:V9)(n:Nat),e=Vr (Vt #[v,I J (n:Nat)])/\kQ (bh s).2 (bT s).1 S/\oe (bh s).2 (bT s).1 S/\qe w (bh s).2 S (bT s).1 q limit w' v n/\Below (F (X w)) w w'
variable {a g:W8}
def Calls.pV{w f b R}(h:Calls w f b a R):∃e c,R e c:=by obtain⟨e,c,_,d,_⟩:=h [];exact⟨e,c,d⟩
variable {b:B8}{c d:Nat}
def afp(h:jI b c d a f)(k)(m:k<=50):∃S r,kQ (bh b).2 (bT b).1 S/\oe (bh b).2 (bT b).1 S/\kH (bh b).2 S (bT b).1 k (jQ S (bh b).2.length) 0 [] r:=by
 obtain⟨p,q,o,t,e,S,g,n,w,s,j⟩:=M9 h;obtain⟨_,_,_,_,_,u⟩:=Calls.pV (Pg a d p (bh b).2 q o t e S g (λi _=>j i) k m);rw[n]at u
 cases u with
 |no _ i=>exact⟨S,G,w,s,i⟩
 |yes _ _ l=>exact⟨S,_,w,s,l⟩
def UM(h:jI b c d a f)(q)(T:q.size<=2000000)(w):Calls prog 26 #[Vp (P (C c 0 G)),Y q,I J w] a (acq b a q w):=by
 obtain⟨g,A,B⟩:=h.x;have yb:=pL h.ok;obtain⟨D,n,o⟩:=yb.pV;have y:∀r∈g,r.R∈(dL b).2.2.1:=λr e=>by rw[<-B];exact fW e
 have s:∀r∈g,r.bs.map (·.1)=r.R.body:=λr e=>by
  obtain⟨_,_,_,_,i⟩:=A;exact(i.aK r e).eq
 have i:∀r∈g,∀x∈r.bs,x.1∈r.R.body:=λr e x m=>by rw[<-s r e];exact fW m
 have S:Z g<=30:=by have:=yb.len;rw[<-B,bF]at this;exact this
 have l:=AJ h.ok B s;have E:=I5 h.ok B s;refine(aka a f c g (bh b).2 q w (CZ (bh b).2 g) T A S (λr e=>by have:=yb.body r.R (y r e);rw[<-s r e,bF]at this;exact this) (λr e=>yb.pd r.R (y r e)) (λr e x m=>yb.CL r.R (y r e) x.1 (i r e x m)) (by rw[B];exact yb.Ei) (by rw[B];exact yb.oz) (oF yb.dc) (λr e=>⟨(yb.named r.R (y r e)).1,λx m=>(yb.named r.R (y r e)).2 x.1 (i r e x m)⟩) D (by rw[B];exact n) o (MZ l.dI) l.dI TL ?_).mono ?_
 .intro L Sp m K v p R u e M t;have z:=Fp L;obtain⟨_,r,W,x,j⟩:=afp h w.toNat O;obtain⟨_,_,_,_,N,Q,V⟩:=Kg h.ok B s W x v p O R j u;obtain⟨rfl,k⟩:=QZ l E N Q V M t;exact akX k
 rintro e m⟨j,k⟩;exact⟨g,B,s,j,k⟩
def UO{x}(h:jI b c d a x)(q)(A:q.size<=2000000)(w):Calls prog 91 #[Vp (P (C d 0 G)),Y q,I J w] a (acw b a q w):=by
 obtain⟨p,r,o,t,f,S,k,z,g,j,m⟩:=M9 h
 by_cases u:w.toNat<=50
 .refine(UW a d p (bh b).2 r o t f S k (λi _=>m i) q oM w MK (λ_ _ l e=>by rw[z]at e;exact Q3 h.ok u e)).mono ?_;rintro e y⟨v,n,rfl,l,s⟩;rw[z]at l;exact⟨S,v,n,rfl,g,j,l,s⟩
 refine(UW a d p (bh b).2 r o t f S k (λi _=>m i) q oM w MK (λ_ i=>O)).mono ?_;rintro e y⟨v,n,rfl,l,s⟩;rw[z]at l;exact⟨S,v,n,rfl,g,j,l,s⟩
variable {e:Int}
def uj.shape{i f j}(s:uj a i h b e f g j):∃v d w m c k,j=Vr (Vt #[Va #[I J v,I J d,U w m c],I J (k:Nat)]):=by
 cases s with
 |arg _=>exact⟨0,0,G,0,0,8,rfl⟩
 |ask _ _=>exact⟨0,0,G,0,0,6,rfl⟩
 |over _ _ _ _ _ _=>exact⟨0,0,G,0,0,7,rfl⟩
 |yes _ _ _ _ _ _ _ _ _ _=>exact⟨_,_,_,_,_,0,rfl⟩
def qe.shape{S f v}(s:qe a h S f b e g v c):∃x d w m n,v=jV x d (U w m n):=by
 cases s with
 |arg _=>exact⟨_,_,_,_,_,rfl⟩
 |ask _ _ _=>exact⟨_,_,_,_,_,rfl⟩
 |over _ _ _ _=>exact⟨_,_,_,_,_,rfl⟩
 |out _ _ _ _ _ _ _ _ _=>exact⟨_,_,_,_,_,rfl⟩
 |yes _ _ _ _ _ _ _ _ _=>exact⟨_,_,_,_,_,rfl⟩
def A6.Es{wr i m x y w b p j n}(h:A6 a g wr i (Vr (Vt #[Va #[I J e,I J m,U w d c],I J (f:Nat)])) (jV x y (U b p j)) n):f=n/\e=x/\m=y/\∃k,Z k<=1000/\d=Z k/\p=Z k/\Ow g (F (X a)) 5 1 (U w d c) d (k.map iQ)/\Ow i (F (X wr)) 5 1 (U b p j) p (k.map iQ):=by
 generalize o:Vr (Vt #[Va #[I J e,I J m,U w d c],I J (f:Nat)])=v at h;generalize l:jV x y (U b p j)=u at h
 cases h with
 | @mk K B E k t z A D s q r=>simp only[LI,Md,Mc,DG,zN,G8,G7,BL,vf]at o;unfold jV at l;simp only[Mc,DG,zN,G8,G7,BL,vf]at l;obtain⟨⟨rfl,rfl,rfl,rfl,rfl⟩,_⟩:=o;obtain⟨rfl,rfl,rfl,rfl,rfl⟩:=l;exact⟨O,rfl,rfl,k,s,rfl,rfl,q,r⟩
def YB(w:W8)(b:Nat)(v d:Int)(s:V9):Prop:=w.heap[b]?=P (Vc #[I J v,I J d,s] 49)
variable {a b:Int}{d:V9}{e f:W8}
def YB.cells(h:YB e c a b d):Ce e (C c 0 G)=P (I J a)/\Ce e (C c 1 G)=P (I J b)/\Ce e (C c 2 G)=P d:=⟨(aj h 0).1,(aj h 1).1,(aj h 2).1⟩
def YB.ai(h:YB e c a b d)(k:Below (F (X e)) e f):YB f c a b d:=(k.block c (aM.1 h).1).trans h
def YB.kept(h:YB e c a b d){B}(k:ak B e f)(w:c∉B):YB f c a b d:=(k.block c (aM.1 h).1 w).trans h
def YB.new(w v d s):YB (Al w (Vc #[I J v,I J d,s] 49)) (F (X w)) v d s:=aG w _
def adM(w b j5 bv tv sv es mb mt ms)(h:LW w b j5 bv tv sv es mb mt ms)(x y ps lo)(c:jI ps x y w lo)(hlen:Z mb+2<=100000000)(a bb s t u aC nt ct)(hs:s.size<=2000000):Calls prog 50 #[Vp (P (C b 0 G)),Va #[I J 5,I J a,I J bb,Y s,Y t,Y u,U aC nt ct],Va #[Vp (P (C x 0 G)),Vp (P (C y 0 G)),Y ps]] w (AY w b j5 bv tv sv es mb mt ms):=by
 obtain⟨M,p,L,Q⟩:=F5 w (Vc #[I J 5,I J a,I J bb,Y s,Y t,Y u,U aC nt ct] 26) (Vc #[Vp (P (C x 0 G)),Vp (P (C y 0 G)),Y ps] 112);have N:=c.ai M;have g:=UM N s hs bb;have Lo:=H Q;have qg:=H c.ok;clear c Q;go_in;go_wp2_with fail;refine g.mono ?_;rintro e r⟨_,j,V,c,k⟩;obtain⟨v1,d1,a1,R,c1,_,rfl⟩:=c.shape;have Q:=ag Lo;have l:=k.alloc k.size (Vc #[I J v1,I J d1,U a1 R c1] 49);have o:=YB.new r v1 d1 (U a1 R c1);have d:(Al r (Vc #[I J v1,I J d1,U a1 R c1] 49)).heap.size=F (X r)+1:=oS
 have v:=(l.block (F (X w)+1) O).trans p;have m:=(l.block (F (X w)) O).trans L;have E:=N.ai l;have K:=M.trans (l.mono O);have Dt:=H (And.intro j (And.intro V c));have GB:=H (And.intro d k.size);have B:=H o;have z:=H ((aZ (F (X r)) r).alloc L9 (Vc #[I J v1,I J d1,U a1 R c1] 49));have oR:=H K;have H1:=H E;have S:=H v;have f:=H m;clear g p L M N l k v m K E j V c o d Q;go_upto_region 25 with fail;generalize(Al r (Vc #[I J v1,I J d1,U a1 R c1] 49))=w1 at*;obtain⟨n,E⟩:=aj S 0;obtain⟨A,g⟩:=aj f 2;obtain⟨D,o⟩:=aj f 3;have L:=UM H1 s hs bb;have kW:F (X w)+1<F (X w1):=(aM.1 S).1;generalize xk:F (X r)=A1 at B⊢;have RJ:=H xk;clear xk;go_wp2_with fail;refine L.mono ?_;rintro e v⟨_,k,K,m,l⟩;obtain⟨v2,d2,M,p,N,_,rfl⟩:=m.shape;have d:=l.alloc l.size (Vc #[I J v2,I J d2,U M p N] 49);have i:=YB.new v v2 d2 (U M p N);have q:(Al v (Vc #[I J v2,I J d2,U M p N] 49)).heap.size=F (X v)+1:=oS
 have Du:=H (And.intro k (And.intro K m));have GC:=H (And.intro q l.size);have Lt:=H i;have W:=H ((aZ (F (X v)) v).alloc L9 (Vc #[I J v2,I J d2,U M p N] 49));have SQ:=H (B.ai d);have H2:=H (H1.ai d);have Sv:=H ((d.block (F (X w)+1) kW).trans S);have KZ:=H ((d.block (F (X w)) O).trans f);have T:=H (oR.trans (d.mono oR.size));have KC:=H d;clear L d l k K m i q n E A g D o H1 S f B;go_upto_region 26 with fail;generalize(Al v (Vc #[I J v2,I J d2,U M p N] 49))=w2 at*;obtain⟨q1,FO⟩:=aj Sv 1;obtain⟨r2,Qi⟩:=aj KZ 2;obtain⟨r3,Qj⟩:=aj KZ 3;have EC:=UO H2 s hs bb;generalize Iq:F (X v)=A2 at Lt⊢;have F9:=H Iq;clear Iq;go_wp2_with fail;refine EC.mono ?_;rintro e f⟨S,_,_,rfl,Cy,Ah,d,B⟩;obtain⟨v3,d3,a3,m3,c3,rfl⟩:=d.shape;obtain⟨j,V,c⟩:=ag Dt;obtain⟨k,K,m⟩:=ag Du;obtain⟨o,g,E,bs,Ag,uD,qG,L,Qn⟩:=(UX qg j V Cy Ah c d).Es;obtain⟨D,i,A,bs',N3,vG,WK,l,q⟩:=(UX qg k K Cy Ah m d).Es;have o:=o.symm;have g:=g.symm;have E:=E.symm;have D:=D.symm;have i:=i.symm;have A:=A.symm;subst o g E D i A;unfold jV;have o:=B.alloc B.size (Vc #[I J v3,I J d3,U a3 m3 c3] 49);have y3:=YB.new f v3 d3 (U a3 m3 c3);have z3:(Al f (Vc #[I J v3,I J d3,U a3 m3 c3] 49)).heap.size=F (X f)+1:=oS
 have Oo:=B.size;have dx:=ag GB;have cB:=ag GC;have Q:=ag Lo;have xk:=ag RJ;have Iq:=ag F9;have Iz:=z.trans ((KC.mono z.size).trans (o.mono (bf z.size KC.size)));have VV:=W.trans (o.mono W.size);have r1:=aQ (aX (base':=F (X w)) L O) Iz (λg e=>(L.lt g e).2);have AH:=aQ (aX (base':=F (X w)) l O) VV (λg e=>(l.lt g e).2);have ZU:=aQ Qn ((aZ (F (X f)) f).alloc L9 (Vc #[I J v3,I J d3,U a3 m3 c3] 49)) (λg e=>(Qn.lt g e).2);have ZV:=aQ q ((aZ (F (X f)) f).alloc L9 (Vc #[I J v3,I J d3,U a3 m3 c3] 49)) (λg e=>(q.lt g e).2);have d1:∀g∈(U a1 R c1).ownBlock.toList,F (X w)<=g/\g<A1:=λg E=>⟨(r1.lt g (oU E)).1,by have:=(L.lt g (oU E)).2;omega⟩
 have d2:∀g∈(U M p N).ownBlock.toList,A1+1<=g/\g<A2:=λg E=>⟨by have:=(l.lt g (oU E)).1;omega,by have:=(l.lt g (oU E)).2;omega⟩
 have D:=Et r1 uD;have i:=Et AH vG;have A:=Et ZU qG;have Wh:=Et ZV WK;have hX:strOfNums (bs'.map λ(x:Nat)=>(x:Int)%256)=strOfNums (bs.map λ(x:Nat)=>(x:Int)%256):=by
  have:=Wh.symm.trans A;injection this with this
  injection this
 rw[hX]at i;have XF:=SQ.ai o;have XG:=Lt.ai o;have uU:=H (T.trans (o.mono T.size));have Gq:=H (h.ai (T.trans (o.mono T.size)));have n:=H h;have K6:=H r1;have Gu:=H AH;have Gf:=H d1;have Gg:=H d2;have Fy:R<=1000:=O
 have Fz:p<=1000:=O
 have SH:=H (show(F (X w))+2<=A1/\A1+1<=A2/\A2+1<=F (X f)/\(Al f (Vc #[I J v3,I J d3,U a3 m3 c3] 49)).heap.size=F (X f)+1/\b<(F (X w)) from ⟨O,O,O,z3,h.lt⟩);have Lu:=H XF;have Lv:=H XG;have Lw:=H y3;have RX:=H (And.intro D (And.intro i A));clear D i A Wh hX XF XG y3 r1 AH ZU ZV L l Qn q d1 d2 j V c k K m Dt Du d Cy Ah EC oR T KC z W q1 FO r2 Qi r3 Qj h o B Iz VV Q Lo uD vG qG WK dx cB Oo z3 xk Iq RJ F9 GB GC SQ Lt H2 Sv KZ kW Ag N3;go_upto_region 27 with fail;generalize(Al f (Vc #[I J v3,I J d3,U a3 m3 c3] 49))=w3 at*;generalize strOfNums (bs.map λ(x:Nat)=>(x:Int)%256)=c at*;generalize(F (X f))=A3 at*;obtain⟨D,i,A⟩:=ag RX;obtain⟨ya0,ya1,B⟩:=Lu.cells;obtain⟨yb0,yb1,T⟩:=Lv.cells;obtain⟨yc0,yc1,j⟩:=Lw.cells;go_upto_region 28 with fail;clear D i A RX ya0 ya1 yb0 yb1 T yc0 yc1 j;have A:=ag Gq;have j:=H (A.ai B9.drew);have wy:=H (uU.drew);have V:∀m∈mb,∀g∈(U a1 R c1).ownBlock.toList,g∉m.kT:=λm d g E Q=>by
  have:=(n.bs.aK m d).lt g Q;have:=(Gf g E).1;omega
 have A9:=H (T0 w3.drew b j5 bv tv sv mb a1 R c1 _ j.blk j.bs (aX K6 (aI _)) Fy V O);clear A V;refine wp_region_held_drew (S:=λV=>V.cell? (C A1 2 G)=P (U a1 R c1)) oK B (λhHeld=>?_);clear B;refine K9 0 (Vp (P (C b 0 G))) rfl oG hHeld ?_;refine K9 1 (Vp (P (C b 0 G))) rfl oG hHeld ?_;refine K9 2 (Vp (P (C b 1 G))) rfl oG hHeld ?_;refine K9 3 (Vp (P (C A1 2 G))) rfl oG hHeld ?_;refine K9 4 (U a1 R c1) rfl oG hHeld ?_;refine wpAnyH_ready (rs:=[5]) oK oS ?_;refine AllReadyH.cons rfl (λK hK=>?_) AllReadyH.nil
 go_simp
 refine(A9).mono ?_;rintro e w5⟨rfl,MU,m5,i⟩;have hsz:=ag SH;have B:=n.MX;have Ae:=i.kept.size;have k:∀A,A1<=A->A∉b::(bv.ownBlock.toList++(U a1 R c1).ownBlock.toList):=λA hA d=>by
  rcases bS.1 d with rfl|d
  .omega
  rcases aS.1 d with d|d
  .have:=(n.bs.row.lt A (oU d)).2;omega
  have:=(Gf A d).2;omega
 have W:=(Lu.ai B9.drew).kept i.kept (k A1 L9);have z:=(Lv.ai B9.drew).kept i.kept (k A2 O);have XH:=(Lw.ai B9.drew).kept i.kept (k A3 O);have o:Ow w5 0 5 1 (U M p N) p (bs'.map iQ):=by refine gC (aX Gu (aI _)) (λg E=>i.kept.block g (Gu.lt g E).2 (k g ?_));have:=(Gg g (oU E)).1;omega
 have D:∀m∈mb++[m5],∀g∈(U M p N).ownBlock.toList,g∉m.kT:=λm d g E Q=>by
  have q:=ag Gg g E;rcases aS.1 d with d|d
  .have:=(n.bs.aK m d).lt g Q;omega
  rw[bu.1 d]at Q;rcases i.rI g Q with h|h
  .have:=(Gf g h).2;omega
  have h:F (X w3)<=g:=h;omega
 have VA:=T0 w5.drew b j5 MU tv sv (mb++[m5]) M p N _ i.blk (i.zX.ai B9.drew) o Fz D (by rw[br,sq];omega);have RV:=H VA;have Ef:=H i;have m:=H W;have q:=H z;have l:=H XH;have L:=z.cells.2.2;have Bl:=H i.row;refine hK.out _ _ W.cells.2.2 (λ_=>?_);clear hK K i W z XH o D VA A9 Lu Lv Lw hHeld hsz B Ae k;refine wpAnyH_done oK ?_ _;go_upto_region 29 with fail;refine wp_region_held_drew (S:=λV=>V.cell? (C A2 2 G)=P (U M p N)) oK L (λhHeld=>?_);clear L;refine K9 0 (Vp (P (C b 0 G))) rfl oG hHeld ?_;refine K9 1 (Vp (P (C b 0 G))) rfl oG hHeld ?_;refine K9 2 (Vp (P (C b 1 G))) rfl oG hHeld ?_;refine K9 3 (Vp (P (C A2 2 G))) rfl oG hHeld ?_;refine K9 4 (U M p N) rfl oG hHeld ?_;refine wpAnyH_ready (rs:=[5]) oK oS ?_;refine AllReadyH.cons rfl (λK hK=>?_) AllReadyH.nil
 go_simp
 refine(RV).mono ?_;rintro e w6⟨rfl,W,m6,V⟩;have k:Ho w5 b (λD=>#[j5,D,tv,sv]) 115 5 jE MU (mb++[m5]) (U M p N) W m6 w6:=⟨V.blk,V.zX,((ak.refl _ w5).drew).trans V.kept,V.rI,V.row⟩;have hsz:=ag SH;have B:=n.lt;have D:∀A,A=A1\/A=A2\/A=A3->A∉b::(MU.ownBlock.toList++(U M p N).ownBlock.toList):=λA hA d=>by
  rcases bS.1 d with rfl|d
  .omega
  rcases aS.1 d with d|d
  .rcases ag Bl A d with d|d
   .have:=(n.bs.row.lt A (oU d)).2;omega
   have d:F (X w3)<=A:=d;omega
  have:=ag Gg A d;omega
 have o:=m.kept k.kept (D A1 (.inl rfl));have L:=q.kept k.kept (D A2 (.inr (.inl rfl)));have z:=l.kept k.kept (D A3 (.inr (.inr rfl)));obtain⟨ya0,ya1,-⟩:=o.cells;obtain⟨yb0,yb1,T⟩:=L.cells;obtain⟨yc0,yc1,-⟩:=z.cells;have i:=Q6 wy Ef k Gf (λg E=>by have:=(Gg g E).1;omega);have E:=H (n.acY i.1 k.blk k.zX i.2);refine hK.out _ _ T (λ_=>?_);clear hK K i k V Ef m q l o L z hHeld hsz B D RV Bl T;refine wpAnyH_done oK ?_ _;go_wp2;go_ret;exact⟨oS,W,tv,sv,_,mt,ms,E.1,oS,O,O,E.2⟩
open Go.ChangeShapes Go.WideShapes Go.ChangeAt Go.Deep
def ajA:ownKnob prog.godebug=none:=oK
def ahE:laidOutB prog=true:=oK
def Ua:prog.cellsOf 26=7:=oK
def T9:prog.cellsOf 3=1:=oK
def aet:prog.cellsOf 9=1:=oK
def aes:prog.cellsOf 24=1:=oK
def ajo{a}(d:DataW a):1<=Rows.uptoBulk d:=by
 cases d with
 |lit l=>cases l<;>simp[Rows.uptoBulk]
 |nil=>simp[Rows.uptoBulk]
 |ptr d=>simp[Rows.uptoBulk]
 |slice c f=>simp[Rows.uptoBulk]
 |agg e=>simp[Rows.uptoBulk]
 |iface t d=>simp[Rows.uptoBulk]
 |map b=>simp[Rows.uptoBulk]
 |held h=>simp[Rows.uptoBulk]
def Yc{a}(l:List (DataW a)):Z l<=Rows.uptoBulkAll l:=by
 induction l with
 |nil=>simp[Rows.uptoBulkAll]
 |cons x r b=>have:=ajo x;simp only[Rows.uptoBulkAll,ff];omega
def OH{n}(h:(Lit.int J n).wf=Bt):-9223372036854775808<=n/\n<=9223372036854775807:=by simpa[Lit.wf,IntKind.min,IntKind.max,IntKind.signed,IntKind.bits]using h
def aiG{a}{l:List (DataW a)}{d}(h:d∈l):Rows.uptoBulk d<=Rows.uptoBulkAll l:=by
 induction l with
 |nil=>cases h
 |cons x r b=>
  simp only[Rows.uptoBulkAll];rcases bS.1 h with rfl|h
  .omega
  have:=b h;omega
structure uu(w:W8)(a:O8)(n c:Nat):Prop where
 len:n<=1048576
 cap:n<=c
 max:c<=maxLen
 aC:0<n->∃g off,a=P (C g off G)/\g<F (X w)/\∀j,j<n->∃k:Int,Ce w (C g (off+j) G)=P (I J k)/\-9223372036854775808<=k/\k<=9223372036854775807
def uu.nil(w):uu w G 0 0:=⟨aI _,bD _,aI _,λh=>absurd h (BD 0)⟩
def ajr {H}{enc:TypeId × V9->H}{W base n g off cs x spare held}(hc:W.cells? base ⟨g,off,none⟩ 7=some cs)(ht:DataW.trod enc prog W base spare held n 26 cs=some x):
  ∃ o:qq,W.cell? ⟨g,off,none⟩=some (.int .i64 o.kd)/\W.cell? ⟨g,off+1,none⟩=some (.int .i64 o.a)/\W.cell? ⟨g,off+2,none⟩=some (.int .i64 o.b)/\W.cell? ⟨g,off+3,none⟩=some (.string o.s)/\W.cell? ⟨g,off+4,none⟩=some (.string o.t)/\W.cell? ⟨g,off+5,none⟩=some (.string o.u)/\W.cell? ⟨g,off+6,none⟩=some (.slice o.aC o.nt o.ct)/\sx o/\o.s.size+o.t.size+o.u.size<=Rows.uptoBulk x.1/\(Rows.uptoBulk x.1<=1048576->uu W o.aC o.nt o.ct):=by
 obtain⟨_,N4,xo⟩:=World.cells?_some hc;obtain⟨xs,m,_,XA,hlen,pt,hf⟩:=DataW.trod_struct underlying26 ht;obtain⟨c0,c1,c2,c3,c4,c5,c6,rfl⟩:∃ c0 c1 c2 c3 c4 c5 c6,cs=[c0,c1,c2,c3,c4,c5,c6]:=by
  match cs,N4 with
  | [c0,c1,c2,c3,c4,c5,c6],_=>exact⟨c0,c1,c2,c3,c4,c5,c6,rfl⟩
 obtain⟨y0,y1,y2,y3,y4,y5,y6,rfl⟩:∃ y0 y1 y2 y3 y4 y5 y6,xs=[y0,y1,y2,y3,y4,y5,y6]:=by
  match xs,pt with
  | [y0,y1,y2,y3,y4,y5,y6],_=>exact⟨y0,y1,y2,y3,y4,y5,y6,rfl⟩
 have f0 := hf 0 { name := "Kind", type := 3, offset := 0, embedded := false, tag := "", pkgPath := "", byteOffset := 0 } rfl;have f1 := hf 1 { name := "A", type := 3, offset := 1, embedded := false, tag := "", pkgPath := "", byteOffset := 8 } rfl;have f2 := hf 2 { name := "B", type := 3, offset := 2, embedded := false, tag := "", pkgPath := "", byteOffset := 16 } rfl;have f3 := hf 3 { name := "S", type := 9, offset := 3, embedded := false, tag := "", pkgPath := "", byteOffset := 24 } rfl;have f4 := hf 4 { name := "T", type := 9, offset := 4, embedded := false, tag := "", pkgPath := "", byteOffset := 40 } rfl;have f5 := hf 5 { name := "U", type := 9, offset := 5, embedded := false, tag := "", pkgPath := "", byteOffset := 56 } rfl;have f6 := hf 6 { name := "Turns", type := 24, offset := 6, embedded := false, tag := "", pkgPath := "", byteOffset := 72 } rfl;simp only[T9,aet,aes,vb,By,DP,BC,aT,bx] at f0 f1 f2 f3 f4 f5 f6;obtain⟨k0,e0,_,_⟩:=GI underlying3 f0;obtain⟨k1,e1,_,r1⟩:=GI underlying3 f1;obtain⟨k2,e2,_,r2⟩:=GI underlying3 f2;obtain⟨s3,e3,d3,Oo⟩:=LG underlying9 f3;obtain⟨s4,e4,d4,hs4⟩:=LG underlying9 f4;obtain⟨s5,e5,d5,Xg⟩:=LG underlying9 f5;have hbk:s3.size+s4.size+s5.size<=Rows.uptoBulk x.1:=by
  rw[XA];subst d3 d4 d5;have g3:=mU s3;have g4:=mU s4;have g5:=mU s5;simp only[ir,vc,Rows.uptoBulk,Rows.uptoBulkAll];omega
 have e6:∃ a n c,c6=.slice a n c/\(Rows.uptoBulk x.1<=1048576->uu W a n c):=by
  have xn:Rows.uptoBulk y6.1<=Rows.uptoBulk x.1:=by
   rw[XA];simp only[ir,vc,Rows.uptoBulk,Rows.uptoBulkAll];omega
  rcases open_slice1 underlying24 T9 f6 with⟨h,_⟩ | ⟨a,len,cap,m6,n6,V,D,Pl,h,_,hl,hm,yX,hx,yT⟩
  ·injection h with h
   exact⟨_,_,_,h,λ _=>⟨by omega,by omega,by unfold maxLen;omega,λ h=>by omega⟩⟩
  injection h with h
  refine⟨_,_,_,h,λ hk=>⟨?_,hl,hm,λ h0=>?_⟩⟩
  ·have h1:=gQ Prod.fst hx;simp only at h1;rw[h1] at xn;simp only[Rows.uptoBulk] at xn;have:=Yc ((List.range len).map D);simp only[bF,GR] at this;omega
  have pk:len<=m6:=by rw[yX];split <;> omega
  obtain⟨g,off,sp⟩:=a;have I0:sp=none:=by
   have:=World.cell?_spot (yT 0 (by omega)).1;simpa[Addr.add] using this
  subst I0;have e:∀ i,(⟨g,off,none⟩:Addr).add i=⟨g,off+i,none⟩:=λ i=>by unfold Addr.add;split <;> simp_all
  refine⟨g,off,rfl,DU W _ (yT 0 (by omega)).1,λ j hj=>?_⟩;obtain⟨h1,h2⟩:=yT j (by omega);obtain⟨k,e1,_,r⟩:=GI underlying3 h2;injection e1 with e1
  rw[e1,e] at h1;exact⟨k,h1,OH r⟩
 obtain⟨a6,n6,c6',rfl,ht6⟩:=e6;injection e0 with e0
 injection e1 with e1
 injection e2 with e2
 injection e3 with e3
 injection e4 with e4
 injection e5 with e5
 subst e0 e1 e2 e3 e4 e5;have d0:=xo 0 (by omega);have d1:=xo 1 (by omega);have d2:=xo 2 (by omega);have d3:=xo 3 (by omega);have d4:=xo 4 (by omega);have d5:=xo 5 (by omega);have d6:=xo 6 (by omega);simp only[Addr.add,aT,bx] at d0 d1 d2 d3 d4 d5 d6;exact⟨⟨k0,k1,k2,s3,s4,s5,a6,n6,c6'⟩,by simpa using d0,by simpa using d1,by simpa using d2,by simpa using d3,by simpa using d4,by simpa using d5,by simpa using d6,⟨OH r1,OH r2,Oo,hs4,Xg⟩,hbk,ht6⟩
def ajs{b}{enc:TypeId×V9->b}{W a0 len cap d0 p}(h0:DataW.Trod enc prog W 0 (λ_=>Bt) Bt 22 (U a0 len cap) d0 p)(hk:Rows.uptoBulk d0<=1048576):∃a,BS W a0 len a/\(∀i,i<len->sx (a i)/\(a i).s.size+(a i).t.size+(a i).u.size<=1048576/\uu W (a i).aC (a i).nt (a i).ct)/\len<=1048576:=by
 obtain⟨_,hf⟩:=h0;rcases open_slice underlying22 hf with⟨xp,hx⟩|⟨a,_,_,_,_,D,Pl,xp,_,_,_,yX,hx,yT⟩
 .simp[Value.cells]at xp;obtain⟨rfl,rfl,rfl⟩:=xp;exact⟨λ_=>⟨0,0,0,⟨#[]⟩,⟨#[]⟩,⟨#[]⟩,G,0,0⟩,⟨λi hi=>O⟩,λi hi=>O,O⟩
 simp[Value.cells]at xp;obtain⟨rfl,rfl,rfl⟩:=xp;simp only[Prod.mk.injEq]at hx;obtain⟨rfl,rfl⟩:=hx;simp only[lM]at yX;subst yX;have hlen:len<=1048576:=by simp only[Rows.uptoBulk]at hk;have:=Yc ((List.range len).map D);simp only[bF,GR]at this;omega
 obtain⟨g,off,sp⟩:=a;have I0:0<len->sp=none:=λh=>by
  obtain⟨M4,hc,_⟩:=yT 0 O;rw[Ua]at hc;obtain⟨_,N4,xo⟩:=World.cells?_some hc;obtain⟨c0,r,rfl⟩:∃c0 r,M4=c0::r:=by
   match M4,N4 with
   |c0::r,_=>exact⟨c0,r,rfl⟩
  have aem:=xo 0 O;simpa[Addr.add]using World.cell?_spot aem
 have aK:∀i,i<len->∃o:qq,Ce W (C g (off+i*7) G)=P (I J o.kd)/\Ce W (C g (off+i*7+1) G)=P (I J o.a)/\Ce W (C g (off+i*7+2) G)=P (I J o.b)/\Ce W (C g (off+i*7+3) G)=P (Y o.s)/\Ce W (C g (off+i*7+4) G)=P (Y o.t)/\Ce W (C g (off+i*7+5) G)=P (Y o.u)/\Ce W (C g (off+i*7+6) G)=P (U o.aC o.nt o.ct)/\sx o/\o.s.size+o.t.size+o.u.size<=1048576/\uu W o.aC o.nt o.ct:=by
  intro i hi;obtain⟨M4,hc,ht⟩:=yT i O;rw[Ua]at hc;have hs:=I0 O;subst hs;have e:((C g off G):Addr).add (i*7)=(C g (off+i*7) G):=by unfold Addr.add;split<;>simp_all
  rw[e]at hc;obtain⟨o,q0,q1,q2,q3,q4,q5,q6,q7,q8,q9⟩:=ajr hc ht;have aoY:=aiG (l:=(List.range len).map D) (d:=D i) (aU.2 ⟨i,tj.2 hi,rfl⟩);simp only[Rows.uptoBulk]at hk;have hle:Rows.uptoBulk (D i,Pl i).1<=1048576:=by simp only;omega
  exact⟨o,q0,q1,q2,q3,q4,q5,q6,q7,bf q8 hle,q9 hle⟩
 refine⟨λi=>if h:i<len then Classical.choose (aK i h) else ⟨0,0,0,⟨#[]⟩,⟨#[]⟩,⟨#[]⟩,G,0,0⟩,⟨λi hi=>?_⟩,λi hi=>?_,hlen⟩
 .obtain⟨q0,q1,q2,q3,q4,q5,q6,q7⟩:=SZ (aK i hi);have hs:=I0 O;subst hs;simp only[tr hi];exact⟨g,off,rfl,DU W _ q0,q0,q1,q2,q3,q4,q5,q6,q7.1.s⟩
 obtain⟨q0,q1,q2,q3,q4,q5,q6,q7⟩:=SZ (aK i hi);simp only[tr hi];exact q7
variable {a b e g:Nat}{c:W8}
def ajL{n m j}(h:Ow c a n 1 (U (P (C g 0 G)) e b) e j)(t:m<=e):Ow c a n 1 (U (P (C g 0 G)) m b) m (j.take m):=by
 obtain⟨q,l|⟨_,_,w,r,o,p,_,d,f,i⟩⟩:=h
 .cases l.1
 injection r with h s k
 injection h with h
 injection h with h
 subst h k;refine⟨by rw[qk,q];omega,.inr ⟨g,b,w,rfl,o,p,O,d,f,?_⟩⟩;rw[<-i,L3]
 congr 1
 omega
def ab8(x):∃y,I .u8 (x%256)=iQ y:=⟨(x%256).toNat,by unfold iQ;congr 1;omega⟩
structure re(w:W8)(B:Nat)(a:O8)(c:Nat)(bs:List Nat)(wr:W8):Prop where
 ai:Below B w wr
 row:Ow wr B 5 1 (U a (Z bs) c) (Z bs) (bs.map iQ)
variable {d:List Nat}{h:O8}
def re.add{W w5 j x}(wr:re c a h b d f)(o:a<=F (X c))(k:Below (F (X f)) f W)(w:W.grownBy w5 (U h (Z d) b).ownBlock)(g:Ow w5 a 5 1 (U j (Z d+1) e) (Z d+1) (d.map iQ++[iQ x])):re c a j e (d++[x]) w5:=by
 have m:=wr.ai.size;have n:=k.size;refine⟨⟨w.os.trans (k.os.trans wr.ai.os),w.tape.trans (k.tape.trans wr.ai.tape),w.output.trans (k.output.trans wr.ai.output),bf m (bf n w.size),λi l=>?_⟩,?_⟩
 .rw[w.block i O (λB=>by have:=(wr.row.lt i B.symm).1;omega),k.block i O];exact wr.ai.block i l
 rw[br,sq,fg];exact g
def re.cut(h:re c a (P (C g 0 G)) b d f)(w:e<=Z d):re c a (P (C g 0 G)) b (d.take e) f:=by
 have wr:(d.take e).length=e:=by rw[qk];omega
 refine⟨h.ai,?_⟩;rw[wr,List.map_take];exact ajL h.row w
def re.set{w wr B g c k x a}(h:re w B (P (C g 0 G)) c a wr):re w B (P (C g 0 G)) c (a.set k x) (Sc wr (C g k G) (iQ x)):=by have b:=(h.row.lt g rfl).1;refine⟨h.ai.setCell b _,?_⟩;rw[GV,List.map_set];exact lI h.row k _
def re.drew(w:re c a h b d f):re c a h b d f.drew:=⟨w.ai.drew,w.row.drew⟩
def Tx(B n:Nat)(w:W8)(e:Ending)(w':W8):Prop:=∃s:B8,e=Vr (Y s)/\s.size<=n/\Below B w w'
def anM(w w0 B)(hB:B<=F (X w))(i:Below (F (X w0)) w0 w)(V:F (X w0)<=B)(a c b)(h:Ow w B 5 1 (U a (Z b) c) (Z b) (b.map iQ))(hn:Z b<=1000)(ta d ct)(N:uu w0 ta d ct):Calls prog 93 #[U a (Z b) c,U ta d ct] w (Tx B (Z b+d+1) w):=by
 obtain⟨i0,hi,gB,dx,cB⟩:=info_parts zg;have hnt:=N.len;have o:=H (show re w B a c b w from ⟨aZ _ _,h⟩);have T:=H N;have H0:=H i;clear h N i;generalize i:Z b=N at*;have HN:=H i;clear i;go_in;go_wp2
 go_loopg [0,5] (d+1) (λh v i wr=>∃(k:Nat)(a:O8)(c:Nat)(b:List Nat),k<=d+1/\h=d+1-k/\v=U a (Z b) c/\i=I J k/\(Z b)<=N+k/\re w B a c b wr)
 exact⟨0,a,c,b,aI _,rfl,by rw[ag HN],rfl,by rw[ag HN];exact bD _,o⟩
 case round=>
  clear o;obtain⟨k,a,c,b,_,_,rfl,rfl,_,i⟩:=hrel;have hk1:k<=1048577:=O
  have W:Z b<=1049577:=O
  have o:=H i
  by_cases r:k+1<d/\0<Z b
  .obtain⟨r,L⟩:=r;obtain⟨g,_,hv,_,_⟩:=i.row.form L;injection hv with f e2 A
   subst f A;obtain⟨gt,ot,rfl,A,f⟩:=T.aC O;obtain⟨t0,l,ER,M⟩:=f k O;obtain⟨s,n,hr1,Q⟩:=f (k+1) r;have j:=H0.trans (i.ai.mono V);have q0:=(j.cell (p:=(C gt (ot+k) G)) A).trans l;have q1:=(j.cell (p:=(C gt (ot+(k+1)) G)) A).trans n;have Wa:=T.cap;have E:=T.max;unfold maxLen at E;have D:(k:Int)+1<d:=O;have hpi:(0:Int)<Z b:=O;have aoP:(k:Int)<d:=O;obtain⟨p,_,h⟩:=JF t0 (Z b+2) O O ER M;have v:=h
   have q:=H v;have x:=JO i.row;have R:=x.2;unfold maxLen at R;have aoE:(Z b:Int)<=1049577:=O;have aoQ:(k:Int)<=1048577:=O
   by_cases z:p=Z b
   .subst z;have z:=i.row.alloc (Vc #[I .u8 (s%256)] 5);have m:=H (World.news_of_block (aG wr (Vc #[I .u8 (s%256)] 5)));clear i l n f j h v x;go_wp2_with(first|(go_at_call 51;refine(q _).mono ?_;rintro e wp⟨rfl,x⟩;have x:=x.symm;subst x)|(at_builtin;refine ka _ rfl _ _ 47 rfl B 5 i0 _ 1 1 underlying47 hi gB dx cB rfl oD _ _ _ rfl z (C (F (X wr)) 0 G) 1 1 [I .u8 (s%256)] rfl rfl m (by intro u hu;rw[bu.1 hu];rfl) oM O oT ?_;intro v5 w5 y t K;clear K;obtain⟨a5,c5,rfl⟩:=aF y;have S:=H y;have K:=H t;clear y t));go_roundg(d+1-(k+2))
    case measure=>omega
    case rel=>obtain⟨y,hy⟩:=ab8 s;have t:=ag S;rw[hy]at t;exact⟨k+2,a5,c5,b++[y],O,rfl,by rw[br];rfl,oN,by rw[br,sq];omega,o.add hB oA K t⟩
   by_cases Ak:Z b<p
   .obtain⟨m,_,u⟩:=JF s (Z b) O O hr1 Q;have z:=H u;have t:¬((p:Int)=Z b):=O;have K:(Z b:Int)<p:=O;have S:(m:Int)<=c:=O;have N9:(0:Int)<=m:=O;clear i l n f j h v u;go_upto_region 6 with(go_at_call 51;refine(q _).mono ?_;rintro e wp⟨rfl,x⟩;have x:=x.symm;subst x);go_wp2_with(go_at_call 51;refine(z _).mono ?_;rintro e wp⟨rfl,x⟩;have x:=x.symm;subst x);go_roundg(d+1-(k+2))
    case measure=>omega
    case rel=>refine⟨k+2,_,_,b.take m,O,rfl,?_,oN,by rw[qk];omega,o.cut O⟩;rw[qk,BG O]
   have m:p<Z b:=O;have t:¬((p:Int)=Z b):=O;have K:¬((Z b:Int)<p):=O;have u:(p:Int)<Z b:=O;have S:Ce wr (C g p G)=P (I .u8 (((b[p]:Nat):Int)%256)):=by have:=World.ownsRow.cellAt i.row p O;rw[this,gP,dr m];rfl
   have f0:=CV i.row p;generalize b[p]=z at S;clear i l n f j h v;go_upto_region 5 with(go_at_call 51;refine(q _).mono ?_;rintro e wp⟨rfl,x⟩;have x:=x.symm;subst x)
   go_region
   all_goals
    go_wp2;go_roundg(d+1-(k+2))
    case measure=>omega
    case rel=>obtain⟨y,hy⟩:=ab8 ((z:Int)+s);rw[hy];exact⟨k+2,_,_,b.set p y,O,rfl,by rw[GV],oN,by rw[GV];omega,o.set.drew⟩
  have g:=Et i.row rfl;have e:=H (show Tx B (N+d+1) w (Vr (Y (strOfNums (b.map λ(x:Nat)=>(x:Int)%256)))) wr from ⟨_,rfl,by rw[strOfNums_size,bF];omega,i.ai⟩);clear i
  by_cases i:k+1<d
  .have D:(k:Int)+1<d:=O;have x:¬(0:Int)<Z b:=O;have W:¬0<Z b:=O;go_wp2;go_ret;exact e
  have D:¬(k:Int)+1<d:=O
  go_wp2;go_ret;exact e
variable {c1 c2 c3 c6 c7 eM et eu dv dy eh dn cJ cF bX bY bZ b7 b8 cc cd cg ck cm cy cz cC cD cE cK cL cM cQ cR cS cT cU cV cW cX cY cZ da cN cO de dh cG dz dA dB dC dD dE dF dG dH dO dP dQ dR ei ev ew ey ez eP eQ eR eS eT eU eV eA eB dW dX dY eC eD eE eF eG eH eI eJ eW eX eY eZ e8 e9 fa fi ee dN fo fp fq ft fu fM fN fO fP fw fx fy fC fD fE fF fG fH fj fk fl fI fJ fK fL eO dV gJ gK gL gM gN OT ja jb jc jd je iJ ma me mf mg mh mi mj mm ln lp lq lr lu lx ly lz lA lB mn mo mq mr rh ri rj rk rm rq rr ry rz rA rB rC rD rE rF ou:V9}
def ala(w o d n rv pv tv gs S)(hP:kC w o d n rv pv tv (U (P (C gs 0 G)) (Z n) (Z n)))(hT:jW w gs (Z n) S)(K c a9 c9)(hF:gV w 0 (U a9 (Z c) c9) c)(e j k)(hE:xW w 0 (U j (Z e) k) e)(kK:Z c<=50)(pt:Z e=Z c)(h3:∀r∈d,Z r.bs<=3) (h4:∀r∈d,∀a∈r.R.body,Z a.aq<=4) (mN:∀f∈c,f.F.r<Z d) (hsz:∀i(hi:i<Z c)(hx:i<Z e)r,d[c[i].F.r]?=P r->∀a∈r.R.body,a.no=Bt->(fR (bk e[i].e a)).length<=1000000000/\0<=aL n a.ax){Q} (E:∀w2 u12 u13 u14 u15 u68 u69 u70 u71 u72 u73 u74 u75 u76 u77 u78 u79 u80 u81 u82 u83 u84 u85 u86 u87 u88 u89 u90 u91 u92 u93 u94 u95 u96 u97 u98 u99 R h l b g p m x q s t u v y z A B D L M N T V W u124 u125 u126 u127,Below (F (X w)) w w2->A5 (d.map (·.R)) n S K (c.map (·.F)) (e.map (·.e))->Q (.exit 2) ⟨List.toArray (Vp (P (C o 0 G))::c1::c2::c3::U G 0 0::Vb Bf::c6::c7::I J K::U a9 (Z c) c9::U j (Z e) k::eM::u12::u13::u14::u15::dy::eh::dn::cJ::cF::bX::bY::bZ::b7::b8::cc::cd::cg::ck::cm::cy::cz::cC::cD::cE::cK::cL::cM::cQ::cR::cS::cT::cU::cV::cW::cX::cY::cZ::da::cN::cO::de::dh::cG::dz::dA::dB::dC::dD::dE::dF::dG::dH::dO::dP::dQ::dR::u68::u69::u70::u71::u72::u73::u74::u75::u76::u77::u78::u79::u80::u81::u82::u83::u84::u85::u86::u87::u88::u89::u90::u91::u92::u93::u94::u95::u96::u97::u98::u99::R::h::l::b::g::p::m::x::q::s::t::u::v::y::z::A::B::D::L::M::N::T::V::W::u124::u125::u126::u127::eO::dV::gJ::gK::gL::gM::gN::OT::ja::jb::jc::jd::je::iJ::ma::me::mf::mg::mh::mi::mj::mm::ln::lp::lq::lr::lu::lx::ly::lz::lA::lB::mn::mo::mq::mr::rh::ri::rj::rk::rm::rq::rr::ry::rz::rA::rB::rC::rD::rE::rF::ou::[]),[]⟩ w2)(uF:∀w2 u12 u13 u14 u15 u68 u69 u70 u71 u72 u73 u74 u75 u76 u77 u78 u79 u80 u81 u82 u83 u84 u85 u86 u87 u88 u89 u90 u91 u92 u93 u94 u95 u96 u97 u98 u99 R h l b g p m x q s t u v y z A B D L M N T V W u124 u125 u126 u127,Below (F (X w)) w w2->¬A5 (d.map (·.R)) n S K (c.map (·.F)) (e.map (·.e))->Q .ret ⟨List.toArray (Vp (P (C o 0 G))::c1::c2::c3::U G 0 0::Vb Bf::c6::c7::I J K::U a9 (Z c) c9::U j (Z e) k::eM::u12::u13::u14::u15::dy::eh::dn::cJ::cF::bX::bY::bZ::b7::b8::cc::cd::cg::ck::cm::cy::cz::cC::cD::cE::cK::cL::cM::cQ::cR::cS::cT::cU::cV::cW::cX::cY::cZ::da::cN::cO::de::dh::cG::dz::dA::dB::dC::dD::dE::dF::dG::dH::dO::dP::dQ::dR::u68::u69::u70::u71::u72::u73::u74::u75::u76::u77::u78::u79::u80::u81::u82::u83::u84::u85::u86::u87::u88::u89::u90::u91::u92::u93::u94::u95::u96::u97::u98::u99::R::h::l::b::g::p::m::x::q::s::t::u::v::y::z::A::B::D::L::M::N::T::V::W::u124::u125::u126::u127::eO::dV::gJ::gK::gL::gM::gN::OT::ja::jb::jc::jd::je::iJ::ma::me::mf::mg::mh::mi::mj::mm::ln::lp::lq::lr::lu::lx::ly::lz::lA::lB::mn::mo::mq::mr::rh::ri::rj::rk::rm::rq::rr::ry::rz::rA::rB::rC::rD::rE::rF::ou::[]),[]⟩ w2):Code.wp prog (Code.loop (FU 1)) Q ⟨List.toArray (Vp (P (C o 0 G))::c1::c2::c3::U G 0 0::Vb Bf::c6::c7::I J K::U a9 (Z c) c9::U j (Z e) k::eM::I J (0:Nat)::et::eu::dv::dy::eh::dn::cJ::cF::bX::bY::bZ::b7::b8::cc::cd::cg::ck::cm::cy::cz::cC::cD::cE::cK::cL::cM::cQ::cR::cS::cT::cU::cV::cW::cX::cY::cZ::da::cN::cO::de::dh::cG::dz::dA::dB::dC::dD::dE::dF::dG::dH::dO::dP::dQ::dR::ei::ev::ew::ey::ez::eP::eQ::eR::eS::eT::eU::eV::eA::eB::dW::dX::dY::eC::eD::eE::eF::eG::eH::eI::eJ::eW::eX::eY::eZ::e8::e9::fa::fi::ee::dN::fo::fp::fq::ft::fu::fM::fN::fO::fP::fw::fx::fy::fC::fD::fE::fF::fG::fH::fj::fk::fl::fI::fJ::fK::fL::eO::dV::gJ::gK::gL::gM::gN::OT::ja::jb::jc::jd::je::iJ::ma::me::mf::mg::mh::mi::mj::mm::ln::lp::lq::lr::lu::lx::ly::lz::lA::lB::mn::mo::mq::mr::rh::ri::rj::rk::rm::rq::rr::ry::rz::rA::rB::rC::rD::rE::rF::ou::[]),[]⟩ w:=by
 conv=>arg 2;arg 1;whnf
 obtain⟨ar,cr,rfl⟩:=aF hP.bB;have ES:=ej hP.bB;unfold maxLen at ES;have HP:=H hP;have HT:=H hT;have HF:=H hF;have HE:=H hE;have HH3:=H h3;have Bb:=H h4;have HRL:=H mN;have lL:=H hsz;have DD:=H pt;have HX:=H E;have HY:=H uF;clear hP hT hF hE h3 h4 mN hsz E uF pt
 go_loopg [4,5,12] (Z c) (λs R h E wr=>R=U G 0 0/\h=Vb Bf/\∃(i:Nat),E=I J i/\i<=Z c/\s=Z c-i/\Below (F (X w)) w wr/\∀(s:Nat)(f:aP)(E:ec)(R:bg),s<i->(c.map (·.F))[s]?=P f->(e.map (·.e))[s]?=P E->(d.map (·.R))[f.r]?=P R->∀a∈R.body,a.no=Bt->wW n S K (c.map (·.F)) E a)
 exact⟨rfl,rfl,0,rfl,O,O,aZ _ _,λs _ _ _ h=>O⟩
 case round=>
  obtain⟨rfl,rfl,i,rfl,hi,Ci,V,r⟩:=hrel;have B:=H r;have HB:=H V
  by_cases l:i<Z c
  .have tK:(i:Int)<Z c:=O;have A:i<Z e:=(by rw[ag DD];exact l);have b:=HP.kept ((ak.refl [] _).bC V) oS;have ho0:=b.c0;have Od:=b.lt;obtain⟨g9,T5,hv9,-,hl9,hn9,hm9,D⟩:=qB (HF.ai V).row l;injection hv9 with g q2 q
   subst g q;have x8:=D 8 oD;simp only[FG.cells,bx,aT]at x8;have z:=ag HRL _ (aN l);obtain⟨t,M0,po,NT,aoK,Oc,Aj,p0,p1,p2,p3,p4,p5⟩:=pT b.bB c[i].F.r z;injection po with g q2 q
   subst g q;have g:=aN z;have q:d[c[i].F.r]?=P d[c[i].F.r]:=dr z;have p:=HP.aK _ g;have h3:=ag HH3 _ g;have h4:=ag Bb _ g;have m:=ag lL i l A _ q;have y:(c.map (·.F))[i]?=P c[i].F:=(by rw[gP,dr l];rfl);generalize d[c[i].F.r]=h at p0 p1 p2 p3 p4 p5 p h3 h4 m q;have u:(d.map (·.R))[c[i].F.r]?=P h.R:=(by rw[gP,q];rfl);have L:=H (λ(f:aP)(W:(c.map (·.F))[i]?=P f)=>(show(d.map (·.R))[f.r]?=P h.R from by rw[y]at W;obtain rfl:=cI W;exact u));have ud:=H (show ∃f,(c.map (·.F))[i]?=P f from ⟨_,y⟩);have M:=H (show(e.map (·.e))[i]?=P e[i].e by rw[gP,dr A];rfl);generalize c[i].F.r=x at*;obtain⟨ah,ch,N⟩:=aF p.hd;obtain⟨ab,cb,T⟩:=aF p.bo;rw[N]at p1;rw[T]at p5;rw[N,T]at p;have v:=H (p.dS (aI _));have HH:=H (And.intro h4 m);have ah7:(x:Int)<Z d:=O;have d1:(F (X wr))≠o:=O;have d2:(F (X wr))≠g9:=O;have d3:(F (X wr))≠t:=O;clear V r b D g p h4 m q u y N T;go_upto_region 15 with fail
   go_cut [13] from 68 to 127 (λp wc=>∃b,p=Vp (P (C b 0 G))/\wc.heap[b]?=P (Vc #[Y h.R.ay.ax,U ah (Z h.R.ay.aq) ch,Vb h.R.ay.no,I J h.R.ay.aC,I J h.R.ay.aO,U ab (Z h.bs) cb] 246)/\Below (F (X wr)) wr wc)
   case first=>
    go_region_held3 (λp=>Ce p (C o 0 G)=P (U (P (C t 0 G)) (Z d) cr)/\Ce p (C g9 (i*10+8) G)=P (I J (x:Nat))/\Ce p (C t (x*6) G)=P (Y h.R.ay.ax)/\Ce p (C t (x*6+1) G)=P (U ah (Z h.R.ay.aq) ch)/\Ce p (C t (x*6+2) G)=P (Vb h.R.ay.no)/\Ce p (C t (x*6+3) G)=P (I J h.R.ay.aC)/\Ce p (C t (x*6+4) G)=P (I J h.R.ay.aO)/\Ce p (C t (x*6+5) G)=P (U ab (Z h.bs) cb)) (go_keep) (fail)
    all_goals
     go_wp2;go_meet
     case rel=>first|exact⟨_,rfl,aG _ _,B9.drew.alloc L9 _⟩|exact⟨_,rfl,aG _ _,oA.drew⟩
   case rest=>
    generalize wc=wA at*;obtain⟨b,rfl,g,u⟩:=hcut;clear p0 p1 p2 p3 p4 p5 ho0 x8;have p:=HB.trans (u.mono HB.size);have N:=HP.kept ((ak.refl [] _).bC p) oS;have q:=HT.kept ((ak.refl [] _).bC p);have T:=v.kept ((ak.refl [] _).bC p) oS;have HPA:=H N;have Lj:=H q;have K6:=H T;have D:=H g;have m:=H p;have HFA:=H (HF.ai p);have HEA:=H (HE.ai p);clear p N q T g u;go_wp2_with fail;refine alb wA o d n _ pv tv gs S HPA Lj K c _ c9 HFA e j k HEA i A b h.R ah ab ch cb h.bs K6 D h3 HH.1 HH.2 ?_ ?_
    .intro w2;intros;rename_i g p;have u:=H (m.trans (g.mono m.size));have q:=H p;clear g p;go_wp2;go_roundg(Z c-(i+1))
     case measure=>omega
     case rel=>
      refine⟨rfl,rfl,i+1,oN,O,rfl,u,λs f E R y N T p=>?_⟩
      by_cases y:s=i
      .subst y;rw[ag M]at T;obtain rfl:=cI T;rw[ag L f N]at p;obtain rfl:=cI p;exact q
      exact B s f E R O N T p
    intro w2;intros;rename_i g q;have u:=H (m.trans (g.mono m.size))
    have y:=H (show ¬A5 (d.map (·.R)) n S K (c.map (·.F)) (e.map (·.e)) from λhd=>by
     obtain⟨a,ha,hn,agV⟩:=q;obtain⟨f,W⟩:=ud
     exact agV (hd i f _ _ W M (L f W) a ha hn))
    clear g q;go_wp2_with fail;apply HY
    .exact u
    exact y
  have tK:¬((i:Int)<Z c):=O
  have b:=H (show A5 (d.map (·.R)) n S K (c.map (·.F)) (e.map (·.e)) from λs f E R N T p=>by
   have:=(qj.1 N).1;rw[bF]at this
   exact r s f E R O N T p)
  clear V r;go_wp2_with fail;apply HX
  .exact HB
  exact b
variable {ed eN:V9}
def alc(w o c k rv pv tv gs S K d a9 c9)(hC:Eb w o c k rv pv tv gs S 0 d (U a9 (Z d) c9)){Q} (i:∀w2 u16 u17 u18 u19 u20 l r y g b W h a x R f m n j e p q s t u v z A B D E L M N T V u159 u160 u161 u162 u163 u164 u165 u166 u167 u168 u169 u170 u171 u172 u173 u174 u175 u176 u177 u178,Below (F (X w)) w w2->A0 (c.map (·.R)) k S K (d.map (·.F))->Q (.exit 6) ⟨List.toArray (Vp (P (C o 0 G))::c1::c2::c3::U G 0 0::Vb Bf::c6::c7::I J K::U a9 (Z d) c9::ed::eM::eN::et::eu::dv::u16::u17::u18::u19::u20::bX::bY::bZ::b7::b8::cc::cd::cg::ck::cm::cy::cz::cC::cD::cE::cK::cL::cM::cQ::cR::cS::cT::cU::cV::cW::cX::cY::cZ::da::cN::cO::de::dh::cG::dz::dA::dB::dC::dD::dE::dF::dG::dH::dO::dP::dQ::dR::ei::ev::ew::ey::ez::eP::eQ::eR::eS::eT::eU::eV::eA::eB::dW::dX::dY::eC::eD::eE::eF::eG::eH::eI::eJ::eW::eX::eY::eZ::e8::e9::fa::fi::ee::dN::fo::fp::fq::ft::fu::fM::fN::fO::fP::fw::fx::fy::fC::fD::fE::fF::fG::fH::fj::fk::fl::fI::fJ::fK::fL::l::r::y::g::b::W::h::a::x::R::f::m::n::j::e::p::q::s::t::u::v::z::A::B::D::E::L::M::N::T::V::u159::u160::u161::u162::u163::u164::u165::u166::u167::u168::u169::u170::u171::u172::u173::u174::u175::u176::u177::u178::ou::[]),[]⟩ w2)(uF:∀w2 u16 u17 u18 u19 u20 l r y g b W h a x R f m n j e p q s t u v z A B D E L M N T V u159 u160 u161 u162 u163 u164 u165 u166 u167 u168 u169 u170 u171 u172 u173 u174 u175 u176 u177 u178,Below (F (X w)) w w2->¬A0 (c.map (·.R)) k S K (d.map (·.F))->Q .ret ⟨List.toArray (Vp (P (C o 0 G))::c1::c2::c3::U G 0 0::Vb Bf::c6::c7::I J K::U a9 (Z d) c9::ed::eM::eN::et::eu::dv::u16::u17::u18::u19::u20::bX::bY::bZ::b7::b8::cc::cd::cg::ck::cm::cy::cz::cC::cD::cE::cK::cL::cM::cQ::cR::cS::cT::cU::cV::cW::cX::cY::cZ::da::cN::cO::de::dh::cG::dz::dA::dB::dC::dD::dE::dF::dG::dH::dO::dP::dQ::dR::ei::ev::ew::ey::ez::eP::eQ::eR::eS::eT::eU::eV::eA::eB::dW::dX::dY::eC::eD::eE::eF::eG::eH::eI::eJ::eW::eX::eY::eZ::e8::e9::fa::fi::ee::dN::fo::fp::fq::ft::fu::fM::fN::fO::fP::fw::fx::fy::fC::fD::fE::fF::fG::fH::fj::fk::fl::fI::fJ::fK::fL::l::r::y::g::b::W::h::a::x::R::f::m::n::j::e::p::q::s::t::u::v::z::A::B::D::E::L::M::N::T::V::u159::u160::u161::u162::u163::u164::u165::u166::u167::u168::u169::u170::u171::u172::u173::u174::u175::u176::u177::u178::ou::[]),[]⟩ w2):Code.wp prog (Code.loop (FU 3)) Q ⟨List.toArray (Vp (P (C o 0 G))::c1::c2::c3::U G 0 0::Vb Bf::c6::c7::I J K::U a9 (Z d) c9::ed::eM::eN::et::eu::dv::I J (0:Nat)::eh::dn::cJ::cF::bX::bY::bZ::b7::b8::cc::cd::cg::ck::cm::cy::cz::cC::cD::cE::cK::cL::cM::cQ::cR::cS::cT::cU::cV::cW::cX::cY::cZ::da::cN::cO::de::dh::cG::dz::dA::dB::dC::dD::dE::dF::dG::dH::dO::dP::dQ::dR::ei::ev::ew::ey::ez::eP::eQ::eR::eS::eT::eU::eV::eA::eB::dW::dX::dY::eC::eD::eE::eF::eG::eH::eI::eJ::eW::eX::eY::eZ::e8::e9::fa::fi::ee::dN::fo::fp::fq::ft::fu::fM::fN::fO::fP::fw::fx::fy::fC::fD::fE::fF::fG::fH::fj::fk::fl::fI::fJ::fK::fL::eO::dV::gJ::gK::gL::gM::gN::OT::ja::jb::jc::jd::je::iJ::ma::me::mf::mg::mh::mi::mj::mm::ln::lp::lq::lr::lu::lx::ly::lz::lA::lB::mn::mo::mq::mr::rh::ri::rj::rk::rm::rq::rr::ry::rz::rA::rB::rC::rD::rE::rF::ou::[]),[]⟩ w:=by
 conv=>arg 2;arg 1;whnf
 obtain⟨ar,cr,rfl⟩:=aF hC.prog.bB;have mN:=ej hC.prog.bB;unfold maxLen at mN;have l:=H hC;have HX:=H i;have HY:=H uF;clear hC i uF
 go_loopg [4,5,16] (Z c) (λr i g y wr=>i=U G 0 0/\g=Vb Bf/\∃(i:Nat),y=I J i/\i<=Z c/\r=Z c-i/\Below (F (X w)) w wr/\∀r∈c.take i,S (bH k r.R.ay.ax)<K->∀y∈lX r.R (d.map (·.F)),¬dp (d.map (·.F)) (bI (bk y.1 r.R.ay))<0)
 exact⟨rfl,rfl,0,rfl,O,O,aZ _ _,oS⟩
 case round=>
  obtain⟨rfl,rfl,i,rfl,hi,Ci,hB,g⟩:=hrel;have t:=H g;have HB:=H hB;have b:=l.prog.kept ((ak.refl [] _).bC hB) oS;have V:=b.c0;have Od:=b.lt
  by_cases L:i<Z c
  .have tK:(i:Int)<Z c:=O;obtain⟨gr,M0,po,NT,qE,Oc,Aj,p0,N,p2,p3,p4,p5⟩:=pT b.bB i L;injection po with W q2 D
   subst W D;have W:=aN L;have D:=H (show ∀y,y∈c.take (i+1)->(y∈c.take i\/y=c[i]) from λy s=>by rw[jr L]at s;rcases aS.1 s with h|h;exact .inl h;exact .inr (bu.1 h));have a:=l.prog.aK _ W;have h3:=l.body _ W;have n:=l.aq _ W;have x:=l.xx _ W;have f:=l.size _ W;generalize c[i]=R at p0 N p2 p3 p4 p5 a h3 n x f D W;obtain⟨ah,ch,q⟩:=aF a.hd;obtain⟨ab,cb,m⟩:=aF a.bo;rw[q]at N;rw[m]at p5;rw[q,m]at a;have B:=H (a.dS (aI _));have T:=H n;have lL:=H f;have Bd:=H W;clear hB g b a n f q m W;go_upto_region 27 with fail;generalize q:World.alloc wr _=f;have kA:Below (F (X wr)) wr f:=(by rw[<-q];exact B9.alloc L9 _);have a:f.heap[F (X wr)]?=P (Vc #[Y R.R.ay.ax,U ah (Z R.R.ay.aq) ch,Vb R.R.ay.no,I J R.R.ay.aC,I J R.R.ay.aO,U ab (Z R.bs) cb] 246):=(by rw[<-q];exact aG wr _);clear q;have q:Below (F (X w)) w f:=HB.trans (kA.mono HB.size);have m:=l.prog.kept ((ak.refl [] _).bC q) oS;have n:=l.sf.kept ((ak.refl [] _).bC q);have M:=mS x;obtain⟨j,E⟩:∃j:Nat,aL k R.R.ay.ax=(j:Int):=⟨_,(DK x).symm⟩;have vF:j<Z k:=O;have z:bH k R.R.ay.ax=j:=(by unfold bH;rw[E];rfl);have st1:=n.cell j vF;have Cj:=n.sz;have c3:=m.c3;have IT:=m.lt;have WN:Z k<=maxLen:=ej m.oE
   have A:=H (λ(W:W8)(p:Below (F (X f)) f W)=>(show Calls prog 135 #[Vp (P (C o 0 G)),Y R.R.ay.ax] W λe u=>e=Vr (I J (j:Nat))/\u=W from by
    have:=sP W o c k _ _ _ _ R.R.ay.ax (m.kept ((ak.refl [] _).bC p) oS);rw[E]at this
    exact this))
   obtain⟨m0,-⟩:=aj a 0;obtain⟨m1,-⟩:=aj a 1;obtain⟨m2,-⟩:=aj a 2;obtain⟨m3,-⟩:=aj a 3;obtain⟨m4,-⟩:=aj a 4;obtain⟨m5,-⟩:=aj a 5;simp only[bt,aT,bx]at m0 m1 m2 m3 m4 m5;have kV:F (X wr)<F (X f):=(aM.1 a).1;have p:=H q;have u:=H a;have v:=H z;have EK:(j:Int)<Z k:=O;have EJ:(0:Int)<=j:=O;clear kA q m n M E z x a p0 N p2 p3 p4 p5 V;generalize(F (X wr))=q at*
   by_cases VM:S j<K
   .have rL:decide (K<=S j)=false:=oT;have ED:decide ((K:Int)<=(S j:Int))=false:=oT;go_quiet((go_at_call 135;exact Calls.quiet_of_same (A _ (below_drewN B9 _))));have N:Below (F (X f)) f (f.drewN nq):=below_drewN B9 _;have n:Below (F (X w)) w (f.drewN nq):=p.trans (N.mono p.size);have W:(f.drewN nq).heap[q]?=P (Vc #[Y R.R.ay.ax,U ah (Z R.R.ay.aq) ch,Vb R.R.ay.no,I J R.R.ay.aC,I J R.R.ay.aO,U ab (Z R.bs) cb] 246):=(N.block _ kV).trans u;have z:=B.kept ((ak.refl [] _).bC n) oS;have m:vs (f.drewN nq) 0 R.R (U ah (Z R.R.ay.aq) ch) R.bs (U ab (Z R.bs) cb) d (U a9 (Z d) c9):=⟨z,(l.bV.ai n),l.dc,h3,λa V=>T a (bG _ V)⟩;have E:=abq (f.drewN nq) 0 R.R _ R.bs _ d a9 c9 m (λx M a V=>lL x M a (bG _ V));unfold oJ at E;have GA:=H E;have V:=H n;have Ge:=H W;have HRQ:=H z;have hbq:q<(f.drewN nq).heap.size:=kV;obtain⟨n0,-⟩:=aj W 0;obtain⟨n1,-⟩:=aj W 1;obtain⟨n2,-⟩:=aj W 2;obtain⟨n3,-⟩:=aj W 3;obtain⟨n4,-⟩:=aj W 4;obtain⟨n5,-⟩:=aj W 5;simp only[bt,aT,bx]at n0 n1 n2 n3 n4 n5;clear E m z W n N A u p m0 m1 m2 m3 m4 m5 c3 st1;generalize f.drewN nq=wq at*;go_wp2_with(go_at_call 193;refine(GA).mono ?_;rintro e wC⟨vw,ws,rfl,W,u,m,oy,E⟩;obtain⟨aw,cw,rfl⟩:=aF W.row;have HWS:=H W;have z:=H u;have n:=H E;clear W u m E);have W:Below (F (X w)) w wC:=V.trans (n.mono V.size);have E:=HRQ.kept ((ak.refl [] _).bC n) oS
    refine ald wC d a9 c9 (l.bV.ai W) q R.R ah ch _ E.hd ((n.block _ hbq).trans Ge) (T _ bz) ws aw cw (HWS.dS (aI _)) oy (λx M=>lL x.W (gI.1 (show x.W∈lX R.R (d.map (·.F)) by rw[<-ag z];exact fW M)).1 _ bz) ?_ ?_
    .intro w2;intros;rename_i a u;have m:=H (W.trans (a.mono W.size))
     have N:=H (show ∀y∈lX R.R (d.map (·.F)),¬dp (d.map (·.F)) (bI (bk y.1 R.R.ay))<0 from λy s=>by
      rw[<-ag z]at s;obtain⟨x,M,rfl⟩:=aU.1 s
      exact u x M)
     clear a u W E;go_wp2;go_roundg(Z c-(i+1))
     case measure=>omega
     case rel=>
      refine⟨rfl,rfl,i+1,oN,O,rfl,m,λy s=>?_⟩;rcases ag D y s with h|h
      .exact t y h
      rw[h];exact λ_=>N
    intro w2;intros;rename_i a u;have m:=H (W.trans (a.mono W.size))
    have N:=H (show ¬A0 (c.map (·.R)) k S K (d.map (·.F)) from λhd=>by
     obtain⟨x,M,mM⟩:=u
     exact hd R.R (fW Bd) (by rw[ag v];exact VM) x.W (by rw[<-ag z];exact fW M) mM)
    clear a u W E;go_wp2_with fail;apply HY
    .exact m
    exact N
   have rL:decide (K<=S j)=true:=oT;have ED:decide ((K:Int)<=(S j:Int))=true:=oT;go_quiet((go_at_call 135;exact Calls.quiet_of_same (A _ (below_drewN B9 _))));go_wp2;go_roundg(Z c-(i+1))
   case measure=>omega
   case rel=>
    refine⟨rfl,rfl,i+1,oN,O,rfl,below_drewN p _,λy s=>?_⟩;rcases ag D y s with h|h
    .exact t y h
    rw[h];intro m;rw[ag v]at m;exact absurd m VM
  have tK:¬((i:Int)<Z c):=O
  have e:c.take i=c:=j7 O
  have f:=H (show A0 (c.map (·.R)) k S K (d.map (·.F)) from λR h=>by
   obtain⟨r,R,rfl⟩:=aU.1 h
   exact g r (by rw[e];exact R))
  clear hB g b e;go_wp2_with fail;apply HX
  .exact HB
  exact f
structure Tr(w:W8)(o:Nat)(rs:List RR)(ps:P9)(rv pv tv:V9)(gs:Nat)(S:Nat->Nat)(b:aP->Prop)(bs:List Nat):Prop where
 nd:Mj w o rs ps rv pv tv gs S b
 str:∀i,i<Z ps->S i<=1000000
 len:Z bs<=1000000000
 Ii:∀n l es,gU (rs.map (·.R)) (ov ps S) bs n 2 [] []=P (l,es,Z bs)->(∀f∈l,f.r<Z rs)/\∀(i:Nat)(f:aP)(E:ec)(r:RR),l[i]?=P f->es[i]?=P E->rs[f.r]?=P r->∀a∈r.R.body,a.no=Bt->(fR (bk E a)).length<=1000000000/\0<=aL ps a.ax
 ways:∀n l es,gU (rs.map (·.R)) (ov ps S) bs n 2 [] []=P (l,es,Z bs)->∀r∈rs,∀x∈j6 l r.R.body [([],[])],∀a∈r.R.ay::r.R.body,(fR (bk x.1 a)).length<=1000000000
def acy(w:W8)(rs:List bg)(ps:P9)(S:Nat->Nat)(bs:List Nat)(e:Ending)(w':W8):Prop:=
 Below (F (X w)) w w'/\((∃(fs:List FG)(a:O8)(c:Nat),um rs ps S bs (fs.map (·.F))/\(Z fs)<=50/\e=Vr (Vt #[U a (Z fs) c,Vb Bt])/\gV w' 0 (U a (Z fs) c) fs)\/((∀l,¬um rs ps S bs l)/\e=Vr (Vt #[U G 0 0,Vb Bf])))
def alw(w o B s rv pv tv gs S b a c d)(E:ky w a c d)(hC:Tr w o B s rv pv tv gs S b d):Calls prog 132 #[Vp (P (C o 0 G)),U a (Z d) c] w (acy w (B.map (·.R)) s S d):=by
 match d,E,hC with
 | [],E,hC=>
  clear E hC;go_in;go_wp2
  go_ret2
  exact⟨aZ _ _,.inr ⟨λl h=>by obtain⟨k,n,es,D,_⟩:=h;simp at D,rfl⟩⟩
 | [y],E,hC=>
  clear E hC;go_in;go_wp2
  go_ret2
  exact⟨aZ _ _,.inr ⟨λl h=>by obtain⟨k,n,es,D,A,_⟩:=h;simp at A,rfl⟩⟩
 |k::n::rest,E,hC=>
  obtain⟨g,oo,rfl,hg,hc⟩:=E.aC oS;have Wz:=E.uz k bz;have agQ:=E.uz n (bG _ bz);have c0:=hc 0 oS;have c1:=hc 1 oS;simp only[DN,DM,iy]at c0 c1;have Wa:=E.cap;have Cs:=E.max;unfold maxLen at Cs;have hlen:(k::n::rest).length=Z rest+1+1:=rfl;have HB:=H E;have z:=H hC;have h2l:(2:Int)<=((Z rest:Int)+1+1):=O
  have h2n:¬((Z rest:Int)+1+1<2):=O
  clear E hC hc
  by_cases hn:n<=50
  .have vJ:¬((50:Int)<n):=O;generalize V:k::n::rest=d at*;have VU:d[0]?=P k:=(by rw[<-V];rfl);have xm:d[1]?=P n:=(by rw[<-V];rfl);have qD:2<=Z d:=(by rw[<-V];simp);have p:=H (And.intro VU xm);have Ag:¬(Z d<2):=O;have N3:decide (Z d<2)=false:=oT;have yV:decide ((Z d:Int)<2)=false:=oT;clear V VU xm hlen h2l h2n;go_in;go_wp2_with fail;refine al9 w o B s rv pv tv gs S (ag z).nd.prog (ag z).nd.sf (ag z).str ?_;intro w2;intros;rename_i qH;subst qH;have pC:=H (ajc w2 o B s rv pv tv gs S b (ag z).nd g oo c d (ag HB) n qD (ag z).len (ag p).2 hn);have Oa:lR S (Z s)<=1000001:=Ph _ (λi hi=>by have:=(ag z).str i hi;omega);go_upto_region 10 with(go_at_call 191;refine(ag pC).mono ?_;rintro e w3⟨ow,h3⟩;have q:=H ow;clear ow;rcases h3 with⟨W,rfl⟩|⟨L,xs,i,a7,a8,c7,c8,W,rfl,hF,hE,hG,kK,pt⟩<;>(try(have te:=H (And.intro kK pt);clear kK pt)))
   .have t:=H (show ∀l,¬um (B.map (·.R)) s S d l from λl h=>by
     obtain⟨k',n',es,D,A,h3,M,_⟩:=h;rw[(ag p).2]at A;obtain rfl:=cI A;rw[W]at M
     cases M)
    clear W;go_wp2
    go_ret2
    exact⟨ag q,.inr ⟨ag t,rfl⟩⟩
   have HT:=H W
   by_cases IH:i=Z d/\k<=lR S (Z s)
   .obtain⟨rfl,IL⟩:=IH;have N:decide (Z d=Z d)=true:=oS;rw[N];have hkd:decide (lR S (Z s)<k)=false:=oT;have kf:¬((lR S (Z s):Int)<k):=O;obtain⟨Wj,hsz⟩:=(ag z).Ii n _ _ W;have R:=(ag z).ways n _ _ W;have N0:=ag q;have xu:=(ag z).nd.prog.kept ((ak.refl [] _).bC N0) oS;have I1:=(ag z).nd.sf.kept ((ak.refl [] _).bC N0);have Q:Z L<=50:=(oF ((ag te).1));have XB:Z xs=Z L:=(by rw[(ag te).1,(ag te).2]);have Su:=H xu;have SI:=H I1;have HF:=H (gV.dS hF (aI _));have HE:=H (show xW w3 0 (U a8 (Z xs) c8) xs from ⟨aX hE.row (aI _),λx hx=>⟨aX (hE.aK x hx).ns (aI _),aX (hE.aK x hx).ts (aI _),(hE.aK x hx).nil⟩⟩);have abS:=H (show ∀f∈L,f.F.r<(Z B) from λf hf=>Wj f.F (fW hf));have lL:=H (show ∀(i:Nat)(hi:i<Z L)(hx:i<Z xs)(r:RR),B[L[i].F.r]?=P r->∀a∈r.R.body,a.no=Bt->(fR (bk xs[i].e a)).length<=1000000000/\0<=aL s a.ax from λi hi hx r hr=>hsz i L[i].F xs[i].e r (by rw[gP,dr hi];rfl) (by rw[gP,dr hx];rfl) hr);have ac9:=H R;have zI:=H XB;clear W hF hE hG Wj hsz R N0 xu I1 XB pC;go_wp2_with fail;refine ala w3 o B s rv pv tv gs S (ag Su) (ag SI) k L a7 c7 (ag HF) xs a8 c8 (ag HE) Q (ag zI) (ag z).nd.body (λr hr a ha=>(ag z).nd.aq r hr a (bG _ ha)) (ag abS) (ag lL) ?_ ?_
    .intro w4;intros;rename_i u m;have EO:=(ag Su).kept ((ak.refl [] _).bC u) oS;have Xm:=(ag SI).kept ((ak.refl [] _).bC u);have Bk:=H (show Eb w4 o B s rv pv tv gs S 0 L (U a7 (Z L) c7) from ⟨EO,Xm,(ag HF).ai u,Q,(ag z).nd.body,(ag z).nd.aq,(ag z).nd.xx,λr hr x hx a ha=>ag ac9 r hr x hx a ha⟩);have ye:=H m;have v:=H u;clear EO Xm m u;go_wp2_with fail;refine alc w4 o B s rv pv tv gs S k L a7 c7 (ag Bk) ?_ ?_
     .intro w5;intros;rename_i K j;have yc:=H ((ag q).trans (((ag v).trans (K.mono (ag v).size)).mono (ag q).size));have zH:=H (show um (B.map (·.R)) s S d (L.map (·.F)) from ⟨k,n,xs.map (·.e),(ag p).1,(ag p).2,hn,ag HT,IL,ag ye,j⟩);have KP:=H (((ag HF).ai (ag v)).ai K);clear K j;go_wp2
      go_ret2
      exact⟨ag yc,.inl ⟨L,a7,c7,ag zH,Q,rfl,ag KP⟩⟩
     intro w5;intros;rename_i K j;have yc:=H ((ag q).trans (((ag v).trans (K.mono (ag v).size)).mono (ag q).size))
     have t:=H (show ∀l,¬um (B.map (·.R)) s S d l from λl h=>by
      obtain⟨k',n',es,D,A,h3,M,h5,h6,h7⟩:=h;rw[(ag p).1]at D;rw[(ag p).2]at A;obtain rfl:=cI D;obtain rfl:=cI A;rw[ag HT]at M;have T:=cI M;injection T with T h9
      rw[<-T]at h7
      exact j h7)
     clear K j
     go_ret2
     exact⟨ag yc,.inr ⟨ag t,rfl⟩⟩
    intro w4;intros;rename_i u m;have v:=H ((ag q).trans (u.mono (ag q).size))
    have t:=H (show ∀l,¬um (B.map (·.R)) s S d l from λl h=>by
     obtain⟨k',n',es,D,A,h3,M,h5,h6,h7⟩:=h;rw[(ag p).1]at D;rw[(ag p).2]at A;obtain rfl:=cI D;obtain rfl:=cI A;rw[ag HT]at M;have T:=cI M;injection T with T h9
     injection h9 with h9 _
     rw[<-T,<-h9]at h6
     exact m h6)
    clear u m
    go_ret2
    exact⟨ag v,.inr ⟨ag t,rfl⟩⟩
   have t:=H (show ∀l,¬um (B.map (·.R)) s S d l from λl h=>by
    obtain⟨k',n',es,D,A,h3,M,h5,_⟩:=h;rw[(ag p).1]at D;rw[(ag p).2]at A;obtain rfl:=cI D;obtain rfl:=cI A;rw[W]at M;have T:=cI M;injection T with T h9
    injection h9 with h9 f
    exact IH ⟨f,h5⟩)
   clear W hF hE hG pC
   by_cases II:i=Z d
   .have N:decide (i=Z d)=true:=(by simp;exact II);rw[N];have hkd:decide (lR S (Z s)<k)=true:=(by simp;have:=λh=>IH ⟨II,h⟩;omega);have kf:(lR S (Z s):Int)<k:=(by have:=λh=>IH ⟨II,h⟩;omega);go_wp2
    go_ret2
    exact⟨ag q,.inr ⟨ag t,rfl⟩⟩
   have N:decide (i=Z d)=false:=(by simp;exact II);rw[N];go_wp2
   go_ret2
   exact⟨ag q,.inr ⟨ag t,rfl⟩⟩
  have vJ:(50:Int)<n:=O
  rw[hlen];go_in;go_wp2
  go_ret2
  exact⟨aZ _ _,.inr ⟨λl h=>by obtain⟨k',n',es,D,A,h3,_⟩:=h;simp at A;omega,rfl⟩⟩
def Jq{l:List aP}(g:∀f∈l,nA f):∀(b:List aR)(d:List Nat)(e c:ec),nz e->kg l b d e=P c->nz c
 | [],_,e,c,he,h=>by
  obtain rfl:=cI h;exact he
 |a::r,d,e,c,he,h=>by
  rw[FB]at h
  split at h
  .exact Jq g r d e c he h
  split at h
  .cases h
  split at h
  .cases h
  rename_i f i
  split at h
  .cases h
  rename_i d b;exact Jq g r _ d c (YG he (g f (tg i)) b) h
variable {a:P9}{b:List Nat}
def Pq{j:List bg}{S:Nat->Nat}(m:∀R∈j,∀r∈R.ay::R.body,wu r):∀(n i:Nat)(l:List aP)(d:List ec)(c:List aP)(r:List ec)(g:Nat),(∀f∈l,nA f/\f.r<Z j)->(∀E∈d,nz E)->gU j (ov a S) b n i l d=P (c,r,g)->(∀f∈c,nA f/\f.r<Z j)/\∀E∈r,nz E
 | 0,i,l,d,c,r,g,hl,he,h=>by
  obtain⟨rfl,rfl,_⟩:l=c/\d=r/\_:=by simpa[gU]using h
  exact⟨hl,he⟩
 |n+1,i,l,d,c,r,g,hl,he,h=>by
  rw[gU]at h
  split at h
  .cases h
  rename_i x s
  split at h
  .cases h
  rename_i R k
  split at h
  .cases h
  split at h
  .cases h
  rename_i E o;have e:nz E:=Jq (λf i=>(hl f i).1) _ _ _ _ (λp q=>by cases q) o
  split at h
  .refine Pq m n _ _ _ c r g (λf i=>?_) (λn p=>?_) h
   .rcases aS.1 i with i|i
    .exact hl f i
    rw[bu.1 i];exact⟨Jv e (m R (tg k) _ bz),(qj.1 k).1⟩
   rcases aS.1 p with p|p
   .exact he n p
   rw[bu.1 p];exact e
  cases h
def alu{w o g y v z u S}(t:sw w o g a y v z u S)(q:∀r∈g,∀s∈r.R.body,0<=aL a s.ax)(B:∀i,S i<=1000000)(D:Z b<=1000000000):Tr w o g a y v z u S nA b:=by
 have d:∀R∈g.map (·.R),∀s∈R.ay::R.body,wu s:=λR c=>by
  obtain⟨r,R,rfl⟩:=aU.1 c;exact t.gS r R
 refine⟨⟨t.prog,t.sf,t.body,λr R s c=>(t.gS r R s c).dc,t.xx,λi r l h E R p k=>?_⟩,λi _=>B i,D,λn l j h=>?_,λn l j h r R x K s c=>?_⟩
 .have e:=tg R;have f:nz E:=Jq p _ _ _ _ (λp A=>by cases A) k;exact⟨Ju f (t.gS r e _ bz),Jv f (t.gS r e _ bz)⟩
 .obtain⟨p,A⟩:=Pq d n 2 [] [] l j _ oS oS h;refine⟨λf m=>by have:=(p f m).2;rwa [bF]at this,λi f E r _ k R s c L=>?_⟩;have e:=tg R;exact⟨Ju (A E (tg k)) (t.gS r e s (bG _ c)),q r e s c⟩
 obtain⟨p,_⟩:=Pq d n 2 [] [] l j _ oS oS h;exact Ju (Ra (λf m=>(p f m).1) _ x K) (t.gS r R s c)
section
open Go.RowKit Go.Maps
attribute [local go_sem ↓] pB qa p9 pY
attribute [local go_sem] sT sR
variable{a:List PR}
def aly{w f c d}(h:gi w c d a)(k:Below (F (X w)) w f):gi f c d a:=
 ⟨aQ h.row k (λg e=>(h.row.lt g e).2),λr b=>⟨aQ (h.aK r b).hd k (λg e=>((h.aK r b).hd.lt g e).2),(h.aK r b).bo.ai k,(h.aK r b).eq⟩⟩
def Eg(ps:P9)(Sp:B8->Nat)(rs:List PR)(bs:List Nat)(t:Th)(e:Ending):Prop:=
 (∃m k st,mH ps Sp m/\vn rs Sp m bs k st/\e=Vr (I J (tT ps Sp k (st.map (·.t)) t:Nat)))\/((∀m k st,mH ps Sp m->¬vn rs Sp m bs k st)/\e=Vr (I J (3:Nat)))
def Tv(w:W8)(ps:P9)(rs:List PR)(s:B8)(bs:List Nat)(e:Ending)(w':W8):Prop:=
 Below (F (X w)) w w'/\((nW ps s=G/\e=Vr (I J (3:Nat)))\/∃t Sp,nW ps s=P t/\ll (rs.map (·.R)) Sp/\og (rs.map (·.R)) Sp/\Eg ps Sp rs bs t e)
def Eg.int{b Sp c t e}(h:Eg b Sp a c t e):∃n,e=Vr (I J (n:Nat)):=by
 rcases h with⟨_,_,_,_,_,rfl⟩|⟨_,rfl⟩
 .exact⟨_,rfl⟩
 exact⟨_,rfl⟩
def ama(w g b d f s)(hs:s.size<=2000000)(h:oi w g b d)(Q:Z d<=30)(W:∀r∈d,Z r.bs<=3)(j:∀r∈d,r.R.pd.size<=800)(m:∀r∈d,∀x∈r.bs,x.1.pd.size<=800)(l:mE ((d.map (·.R)).flatMap jl) [])(y:iU ((d.map (·.R)).flatMap jl) []=f)(v:Z f<=1000)(u:∀r∈d,(∃n,bE f r.R.pd=P n)/\∀x∈r.bs,∃n,bE f x.1.pd=P n)(z)(S:ll (d.map (·.R)) z)(i:∀k,z k<=1000)(T:∀r∈d,kD f r)(e:∀t,nW f s=P t->fY t)(K L q)(p:ky w K L q):Calls prog 47 #[Vp (P (C b 0 G)),Y s,U K (Z q) L] w (Tv w f d s q):=by
 obtain⟨a,c,r,_,x⟩:=h;have M:b<F (X w):=(aM.1 r).1;have HR:=H x;have HG:=H T;have o:=H e;have B:=H S;have D:=H i;have h:=H (Jw w g a c d f x Q W j m l y v u z S i);have HB:=H r;have A:=H p;obtain⟨N,_⟩:=aj r 0;clear x W j m l y v u S i T e r p;go_in;go_wp2_with fail;refine(xE _ b _ a (Z d) c rfl N).mono ?_;rintro e w2⟨rfl,l⟩;have l:=l.symm;subst l;go_wp2_with fail;refine(h).mono ?_;clear h;rintro e w2⟨rfl,T,x,S,n,i,_,r,h⟩;have E:=H (show ∀k,S k<=1000000 from λk=>by have:=h z B k;have:=ag D k;omega);have HV:=H r;have v:=H h;have V:=H i;have p:=H x;clear r h i x N;go_wp2_with fail;refine(Z4 w2 s _ n f S V hs).mono ?_;rintro e x⟨W,rfl⟩;have uH:=W.size;have h:Below (F (X w)) w x:=p.trans (W.mono p.size);have i:=V.block (W.block _ T)
 cases u:nW f s with
 |none=>have y:=H u;have m:=H h;clear u h i W;rw[Option.getD_none,G4];go_wp2;go_ret;exact⟨m.alloc m.size _,.inl ⟨y,rfl⟩⟩
 |some t=>
  have N:=ag o t u;have y:=H u;have m:Below (F (X w)) w (Al x (Vc (bP t).toArray 88)):=h.alloc h.size _;have r:=(m.block b M).trans HB;have j:=i.block (aW x (Vc (bP t).toArray 88) (F (X w)) O);have t4:TV (Al x (Vc (bP t).toArray 88)) (F (X x)) t:=aG _ _;rw[yp,Option.isSome_some];clear u h i W;go_upto_region 5 with fail;generalize R:(Al x (Vc (bP t).toArray 88))=h at*;have u:=H (λ(W:W8)(i:Below (F (X h)) h W)=>amb W g (F (X w)) n f S d a c K L q t ⟨aly HR (m.trans (i.mono m.size)),HG,j.block (i.block _ j.lt),λk _=>E k,A.ai (m.trans (i.mono m.size)),N⟩);have k:=H (λ(W:W8)(i:Below (F (X h)) h W)=>(show Ce W (C b 0 G)=P (U a (Z d) c)/\(oO (Vp (P (C (F (X x)) 0 G)))).run prog W=.ok (cP t) W from ⟨(i.cell (p:=(C b 0 G)) (aM.1 r).1).trans (aj r 0).1,(t4.ai i).load⟩));have i:=H m;clear R m r j t4
  go_region_held3 (λj=>Ce j (C b 0 G)=P (U a (Z d) c)/\(oO (Vp (P (C (F (X x)) 0 G)))).run prog j=.ok (cP t) j) (first|exact k _ j|exact k _ B9.drew) ((first|(go_at_call 36;refine(xE _ b _ a (Z d) c rfl (k _ B9.drew).1).mono ?_;rintro e R⟨rfl,l⟩;have l:=l.symm;subst l)|(go_at_call 78;refine(u _ (by exact B9.drew)).mono ?_;rintro e R⟨r,m⟩;have j:Below (F (X h)) h R:=jB r;have l:Eg f S d q t e:=m;obtain⟨_,rfl⟩:=l.int;have W:=H l;clear m l)))
  all_goals
   go_wp2;go_ret;exact⟨i.trans (j.mono i.size),.inr ⟨t,S,y,HV,v,W⟩⟩
end
def Hn(ps:P9)(rs:List PR)(q:B8)(bs:List Nat)(e:Ending):Prop:=
 (nW ps q=G/\e=Vr (I J (3:Nat)))\/∃t Sp,nW ps q=P t/\ll (rs.map (·.R)) Sp/\og (rs.map (·.R)) Sp/\Eg ps Sp rs bs t e
def Hh(s q:B8)(bs:List Nat)(e:Ending):Prop:=
 ((eK s).1=Bf/\e=Vr (I J (3:Nat)))\/((eK s).1=Bt/\∃rp:List PR,rp.map (·.R)=(dL s).2.2.1/\(∀r∈rp,r.bs.map (·.1)=r.R.body)/\Hn (bh s).2 rp q bs e)
variable {a:B8}{b:Ending}{c:List Nat}
def Hn.int{e q}(h:Hn e q a c b):∃n,b=Vr (I J (n:Nat)):=by
 rcases h with⟨_,rfl⟩|⟨_,_,_,_,_,h⟩
 .exact⟨_,rfl⟩
 exact h.int
def Hh.int{q}(h:Hh a q c b):∃n,b=Vr (I J (n:Nat)):=by
 rcases h with⟨_,rfl⟩|⟨_,_,_,_,h⟩
 .exact⟨_,rfl⟩
 exact h.int
def JM(s):(eK s).1=Bt↔(eK s).2.1=0:=by
 unfold eK
 split
 .simp
 split
 .simp
 split
 .simp
 split
 .simp
 split<;>simp
def ak9(w s q)(R:s.size<=maxLen)(Q:q.size<=2000000)(v y m)(c:ky w v y m):Calls prog 31 #[Y s,Y q,U v (Z m) y] w λe h=>Hh s q m e/\Below (F (X w)) w h:=by
 have h:=ZA w s R;rw[Yu]at h;have A:=H h;have z:=H c;clear h c
 cases c:(eK s).1 with
 |false=>
  have h:=H c;have n:(eK s).2.1≠0:=by have:=JM s;rw[c]at this;simpa using this
  clear c;go_in;go_wp2_with(go_at_call 30;refine(A).mono ?_;rintro e E⟨i,o,-⟩;have g:=o h;subst g;have g:=H i;clear i o);go_ret;exact⟨.inl ⟨h,rfl⟩,g⟩
 |true=>
  have h:=H c;have n:(eK s).2.1=0:=by have:=JM s;rw[c]at this;simpa using this
  have o:=H (λ(W:W8)(b:Nat)(f:List PR)(M:Below (F (X w)) w W)(t:oi W (F (X w)) b f)(l:f.map (·.R)=(dL s).2.2.1)=>(show Calls prog 47 #[Vp (P (C b 0 G)),Y q,U v (Z m) y] W (Tv W (bh s).2 f q m)/\(∀r∈f,r.bs.map (·.1)=r.R.body) from by
   have k:=pL c;obtain⟨K,B,D⟩:=k.pV;have j:∀r∈f,r.R∈(dL s).2.2.1:=λr a=>by rw[<-l];exact fW a
   have d:∀r∈f,r.bs.map (·.1)=r.R.body:=λr a=>by
    obtain⟨_,_,_,_,p⟩:=t;exact(p.aK r a).eq
   have p:∀r∈f,∀x∈r.bs,x.1∈r.R.body:=λr a x u=>by rw[<-d r a];exact fW u
   have N:Z f<=30:=(by have:=k.len;rw[<-l,bF]at this;exact this);have L:=AJ c l d
   exact⟨ama W (F (X w)) b f (bh s).2 q Q t N (λr a=>by have:=k.body r.R (j r a);rw[<-d r a,bF]at this;exact this) (λr a=>k.pd r.R (j r a)) (λr a x u=>k.CL r.R (j r a) x.1 (p r a x u)) (by rw[l];exact k.Ei) (by rw[l];exact k.oz) (oF k.dc) (λr a=>⟨(k.named r.R (j r a)).1,λx u=>(k.named r.R (j r a)).2 x.1 (p r a x u)⟩) K (by rw[l];exact B) D L.dI TL v y m (z.ai M),d⟩))
  clear c;go_in;go_upto_region 2 with(go_at_call 30;refine(A).mono ?_;rintro e E⟨i,-,c⟩;obtain⟨b,f,rfl,t,l⟩:=c h;have g:=H i;have j:=H (And.intro t l);clear i c t l);obtain⟨i,d⟩:=ag o E b f g j.1 j.2;have l:=H i;have t:=H d;clear i d o A;go_wp2_with(go_at_call 47;refine(l).mono ?_;rintro e k⟨o,i⟩;have A:Hn (bh s).2 f q m e:=i;obtain⟨_,rfl⟩:=A.int;have c:=H A;have d:=H o;clear o i A);go_ret;exact⟨.inr ⟨h,f,j.2,t,c⟩,g.trans (d.mono g.size)⟩
def aol{s}(n:(eK s).1=Bt){w y d c v u x j S}(o:kC w y d c v u x (U (P (C j 0 G)) (Z c) (Z c)))(z:jW w j (Z c) S)(B:kQ c (d.map (·.R)) S)(p:oe c (d.map (·.R)) S)(k:d.map (·.R)=(bT s).1)(g:c=(bh s).2)(l:OU c ((bT s).1.flatMap bg.gS)):sw w y d c v u x j S/\(∀r∈d,∀a∈r.R.body,0<=aL c a.ax)/\∀i,S i<=1000000:=by
 have h:=pL n;subst g;rw[k]at B p;have g:∀r∈d,fm r.R∈(dL s).2.2.1:=λr b=>by
  rw[h.bB,<-k,km];exact aU.2 ⟨r,b,rfl⟩
 have q:∀r∈d,r.R∈(bT s).1:=λr b=>by rw[<-k];exact fW b
 have f:∀A:aR,qR A.ax (A.aq.map fV)->wu A:=λA m=>⟨by have:=m.pd.le;omega,λt e=>by
  have:=(m.ts (fV t) (aU.2 ⟨t,e,rfl⟩)).le;have e:(fV t).2=t.text:=rfl;rw[e]at this
  omega,by have:=m.dc;rw[bF]at this;exact this⟩
 refine⟨⟨o,z,λr b=>?_,λr b a t=>?_,λr b=>?_⟩,λr b a t=>l _ (gh.2 ⟨r.R,q r b,bG _ t⟩),λi=>?_⟩
 .have m:=h.body _ (g r b);have e:=(o.aK r b).eq;simp only[fm]at m;rw[bF,e,bF]at m;exact m
 .have m:=PU s _ (g r b);rcases bS.1 t with rfl|t
  .exact f _ m.1
  exact f _ (m.2 (iL a) (aU.2 ⟨a,t,rfl⟩))
 .exact l _ (gh.2 ⟨r.R,q r b,bz⟩)
 obtain⟨_,r,b⟩:=h.pV;rw[h.bB]at r;have:=p _ (Q8 r l) i;have:=b (AE (bh s).2 i);omega
def xI(ps:P9)(S:Nat->Nat)(k:Nat)(l:List aP)(A:aR):Nat:=if 0<=dp l (bI A) then 1 else if aL ps A.ax<0 then 2 else if S (bH ps A.ax)<k then 2 else 3
def Ts(ps:P9)(S:Nat->Nat)(rs:List bg)(q:B8)(bs:List Nat)(e:Ending):Prop:=
 ((iZ ps q&&lG (aJ q))=Bf/\e=Vr (I J (3:Nat)))\/((iZ ps q&&lG (aJ q))=Bt/\((∃l k,um rs ps S bs l/\bs[0]?=P k/\e=Vr (I J (xI ps S k l (aJ q):Nat)))\/((∀l,¬um rs ps S bs l)/\e=Vr (I J (3:Nat)))))
def Mo(s q:B8)(bs:List Nat)(e:Ending):Prop:=
 ((eK s).1=Bf/\e=Vr (I J (3:Nat)))\/((eK s).1=Bt/\∃S:Nat->Nat,kQ (bh s).2 (bT s).1 S/\oe (bh s).2 (bT s).1 S/\Ts (bh s).2 S (bT s).1 q bs e)
def akV(w s q)(hq:q.size<=2000000)(ba bc E)(i:ky w ba bc E)(kV:Z E<=1000000000):Calls prog 82 #[Y s,Y q,U ba (Z E) bc] w λe W=>Mo s q E e/\Below (F (X w)) w W:=by
 have W:=H (P6 s w);have p:=H i;clear i
 cases i:(eK s).1 with
 |false=>
  have t:=H i;have ags:(eK s).2.1≠0:=by have:=JM s;rw[i]at this;simpa using this
  clear i;go_in;go_wp2_with(go_at_call 79;refine(W).mono ?_;rintro e w1⟨y,rfl,n,o,-⟩;have A:=H o;clear o n);go_ret;exact⟨.inl ⟨t,rfl⟩,A⟩
 |true=>
  have t:=H i;have ags:(eK s).2.1=0:=by have:=JM s;rw[i]at this;simpa using this
  clear i;go_in;go_upto_region 2 with(go_at_call 79;refine(W).mono ?_;rintro e w1⟨y,rfl,n,o,a⟩;have A:=H o;have u:=H a;have R:=H n;clear o a n)
  cases y with
  |none=>have:=ag R;rw[ag t]at this;cases this
  |some ad=>
   obtain⟨o,rs,i,rv,pv,tv,gs,S,rfl,h1,b,k,h4,h,a,n,B,K⟩:=ag u ad rfl;obtain⟨f,j,g⟩:=aol t k h4 h a n B K;have l:=H f;have Gp:=H j;have HS:=H g;have SN:=H (show kQ (bh s).2 (bT s).1 S/\oe (bh s).2 (bT s).1 S from by rw[<-B,<-n];exact⟨h,a⟩);have uc:=H (And.intro n B);clear f j g h1 b k h4 h a n B K u R W;go_upto_region 4 with fail;go_wp2_with fail;refine(MI w1 o rs i rv pv tv _ l.prog q oM).mono ?_;rintro e w2⟨_,rfl,u⟩;obtain⟨aa,ca,rfl⟩:=aF u.row;have n:=u.ai;have B:=aG w2 (Vc #[Y (aJ q).ax,U aa (aJ q).aq.length ca,Vb (aJ q).no,I J (aJ q).aC,I J (aJ q).aO] 243);have W:=u.row.alloc (Vc #[Y (aJ q).ax,U aa (aJ q).aq.length ca,Vb (aJ q).no,I J (aJ q).aC,I J (aJ q).aO] 243);have h:Below (F (X w1)) w1 (Al w2 (Vc #[Y (aJ q).ax,U aa (aJ q).aq.length ca,Vb (aJ q).no,I J (aJ q).aC,I J (aJ q).aO] 243)):=n.alloc n.size _;have a:=H W;have R:=H h;have k:=H B;clear u h B W n;unfold aR.val;go_upto_region 5 with fail;generalize(Al w2 (Vc #[Y (aJ q).ax,U aa (aJ q).aq.length ca,Vb (aJ q).no,I J (aJ q).aC,I J (aJ q).aO] 243))=W at*;generalize(F (X w2))=ab at*;have a0:=(aj k 0).1;have a1:=(aj k 1).1;have a2:=(aj k 2).1;have a3:=(aj k 3).1;have a4:=(aj k 4).1;simp only[bt,aT,bx]at a0 a1 a2 a3 a4;go_upto_region 6 with(go_at_call 131;refine(Vo W _ (aJ q) aa ca a).mono ?_;rintro e w3⟨rfl,n⟩;have u:=H n;clear n);have n:=R.trans (u.mono R.size)
   have B:=A.trans (n.mono A.size);have h:=l.ai n;have K:=(u.block _ (aM.1 k).1).trans k;have f:=aQ a u (λg e=>(a.lt g e).2);have b:=H B;have zx:=H h;have L:=H K;have v:=H f;have c:=H (λ(e:Ending)(he:Ts i S (rs.map (·.R)) q E e)=>(show Mo s q E e from .inr ⟨t,S,SN.1,SN.2,by rw[(ag uc).1,uc.2]at he;exact he⟩));clear n B h K f a0 a1 a2 a3 a4 a R k u l
   cases k:iZ i q with
   |false=>have B:=H (show(iZ i q&&lG (aJ q))=Bf by rw[k];rfl);clear k;go_wp2;go_ret;exact⟨c _ (.inl ⟨B,rfl⟩),b⟩
   |true=>
    cases n:lG (aJ q) with
    |false=>have B:=H (show(iZ i q&&lG (aJ q))=Bf by rw[k,n];rfl);clear k n;go_wp2;go_ret;exact⟨c _ (.inl ⟨B,rfl⟩),b⟩
    |true=>
     have K:(iZ i q&&lG (aJ q))=true:=(by rw[k,n];rfl);have KV:=H (MK K);have B:=H K;have h:=H (alw w3 o rs i rv pv tv gs S nA ba bc E (p.ai b) (alu zx Gp HS kV));clear k n K;go_upto_region 9 with(go_at_call 132;refine(h).mono ?_;rintro e R⟨K,h4⟩;have n:=H K;clear K;rcases h4 with⟨K,a4,c4,hR,_,rfl,hF⟩|⟨xr,rfl⟩)
     .have f:=b.trans (n.mono b.size);have l:=zx.ai n;have a:=(n.block _ (aM.1 L).1).trans L;have u:=aQ v n (λg e=>(v.lt g e).2);obtain⟨k,r⟩:∃k,E[0]?=P k:=by obtain⟨k,_,_,h1,_⟩:=hR;exact⟨k,h1⟩
      obtain⟨N,z⟩:=qj.1 r;obtain⟨gb,ob,rfl,Wr,Wb⟩:=p.aC O;have M:=Wb 0 N;rw[z,iy]at M;have Wz:k<256:=(by rw[<-z];exact(p).uz _ (aN N));have D:=H r;have a0:=(aj a 0).1;have a1:=(aj a 1).1;have a2:=(aj a 2).1;have a3:=(aj a 3).1;have T:=(aj a 4).1;simp only[bt,aT,bx]at a0 a1 a2 a3 T;have x:=H (uP R _ (aJ q) aa ca (aJ q).no (aJ q).aC (aJ q).aO u KV);have d:=H (λ(W:W8)(hW:Below (F (X R)) R W)=>yK W 0 a4 c4 K (bI (aJ q)) (aQ hF.row hW (λg e=>(hF.row.lt g e).2)));have m:=H f;have wz:=H l;have Gb:=H a;have V:ab<F (X R):=(aM.1 a).1;have HR:=H hR;have Q:=iz Wr f.size;have HCB:=H (λ(W:W8)(hW:Below (F (X R)) R W)=>(hW.cell (p:=(C gb ob G)) Q).trans ((f.cell (p:=(C gb ob G)) Wr).trans M));have aoH:=p.cap;have agM:=p.max;unfold maxLen at agM;have aoC:(0:Int)<Z E:=O;clear f l a u r z Wb M hR hF h;go_upto_region 11 with fail
      by_cases u:(0:Int)<=dp (K.map (·.F)) (bI (aJ q))
      .have M:=H (show xI i S k (K.map (·.F)) (aJ q)=1 by unfold xI;rw[aD u]);generalize dp (K.map (·.F)) (bI (aJ q))=FX at u d;go_wp2_with(first|(go_at_call 134;refine(x).mono ?_;rintro e w5⟨tx,rfl,z,f⟩;obtain rfl:=AQ z;have a:=H f;clear z f)|(go_at_call 133;refine(d _ a).mono ?_;rintro e w6⟨rfl,g⟩;have g:=g.symm;subst g));go_ret;exact⟨c _ (.inr ⟨B,.inl ⟨_,k,HR,D,by rw[ag M];rfl⟩⟩),m.trans (a.mono m.size)⟩
      have h:=u;have IE:dp (K.map (·.F)) (bI (aJ q))<0:=O;have uV:=H h;clear h u;generalize dp (K.map (·.F)) (bI (aJ q))=FX at IE d;go_upto_region 13 with(first|(go_at_call 134;refine(x).mono ?_;rintro e w5⟨tx,rfl,z,f⟩;obtain rfl:=AQ z;have a:=H f;clear z f)|(go_at_call 133;refine(d _ a).mono ?_;rintro e w6⟨rfl,g⟩;have g:=g.symm;subst g));have f:=wz.ai a;have z:=(a.block _ V).trans Gb;have b0:=(aj z 0).1;simp only[bt,aT]at b0;have u:=H (sP w5 o rs i _ _ _ _ (aJ q).ax f.prog);have c3:=f.prog.c3;have Od:=f.prog.lt;have Cj:=f.sf.sz;have cb5:=ag HCB w5 a;have r:=H (m.trans (a.mono m.size));have Ao:=ej f.prog.oE;have aoJ:=iz Q a.size
      by_cases h:aL i (aJ q).ax<0
      .have M:=H (show xI i S k (K.map (·.F)) (aJ q)=2 by unfold xI;rw[aB (oF (ag uV)),aD h]);generalize aL i (aJ q).ax=l at h u;have vI:decide (l<0)=true:=(by simp;exact h);clear f z a0 a1 a2 a3 T;go_upto_region 14 with(go_at_call 135;refine(u).mono ?_;rintro e w6⟨rfl,g⟩;have g:=g.symm;subst g);go_quiet(fail);go_wp2;go_ret;exact⟨c _ (.inr ⟨B,.inl ⟨_,k,HR,D,by rw[ag M];rfl⟩⟩),below_drewN r _⟩
      obtain⟨l,j⟩:∃l:Nat,aL i (aJ q).ax=(l:Int):=⟨_,(DK O).symm⟩;have vF:l<Z i:=(by have:=mS (ps:=i) (nm:=(aJ q).ax) O;rw[j]at this;exact this);have st1:=f.sf.cell l vF;have M:=H (show xI i S k (K.map (·.F)) (aJ q)=if S l<k then 2 else 3 by unfold xI bH;rw[aB (oF (ag uV)),aB h,j];rfl);rw[j]at u;have EK:(l:Int)<Z i:=O;have EJ:(0:Int)<=l:=O;have vI:decide ((l:Int)<0)=false:=oS;have hnn:¬((l:Int)<0):=O;have hSx:=ag HS l;clear f z h j a0 a1 a2 a3 T
      by_cases T:S l<k
      .have j:decide (S l<k)=true:=(by simp;exact T);have h:decide ((S l:Int)<(k:Int))=true:=oT;rw[aD T]at M;go_upto_region 14 with(go_at_call 135;refine(u).mono ?_;rintro e w6⟨rfl,g⟩;have g:=g.symm;subst g);go_quiet(fail);go_wp2;go_ret;exact⟨c _ (.inr ⟨B,.inl ⟨_,k,HR,D,by rw[ag M];rfl⟩⟩),below_drewN r _⟩
      have j:decide (S l<k)=false:=oT;have h:decide ((S l:Int)<(k:Int))=false:=oT;rw[aB T]at M;go_upto_region 14 with(go_at_call 135;refine(u).mono ?_;rintro e w6⟨rfl,g⟩;have g:=g.symm;subst g);go_quiet(fail);go_wp2;go_ret;exact⟨c _ (.inr ⟨B,.inl ⟨_,k,HR,D,by rw[ag M];rfl⟩⟩),below_drewN r _⟩
     have a:=H xr;clear xr;go_wp2;go_ret;exact⟨c _ (.inr ⟨B,.inr ⟨a,rfl⟩⟩),b.trans (n.mono b.size)⟩
def YW{S:Nat->Nat}:∀{n i:Nat},i<n->S i+1<=lR S n
 |n+1,i,h=>by
  rw[lR];rcases BE i n with a|a
  .have:=YW (S:=S) a;omega
  have:i=n:=O
  subst this;omega
def YV{S:Nat->Nat}:∀(n:Nat),lR S n=0\/∃i,i<n/\lR S n=S i+1
 | 0=>.inl rfl
 |n+1=>by
  rw[lR]
  by_cases h:lR S n<=S n+1
  .exact .inr ⟨n,O,O⟩
  rcases YV (S:=S) n with n|⟨i,n,a⟩
  .omega
  exact .inr ⟨i,O,O⟩
variable {a:P9}
def aeP(e:qp a){Sp:B8->Nat}{S:Nat->Nat}(c:∀k,0<=aL a k->Sp k=S (bH a k)):mH a Sp (lR S (Z a)):=by
 refine⟨λk d=>?_,?_⟩
 .have b:=vT.1 d;rw[c k b];exact YW (mS b)
 rcases YV (S:=S) (Z a)with h|⟨i,d,h⟩
 .exact .inl h
 have k:=JA e i 0 d;have b:aL a a[i].1=(i:Int):=by unfold aL;rw[k];omega
 refine .inr ⟨a[i].1,vT.2 O,?_⟩;rw[c _ O,h];unfold bH;rw[b];rfl
variable {c:List PR}{d:List gR}
def si.afT{m:List bg}{l:List aP}{k:List ec}(h:si a m c l k d){A:aR}(i:xa (bp A)):dp l (bI A)<0↔bp A∉d.map (·.t):=by
 rw[yL,<-h.rel.th,sU]
 constructor
 .intro b g;obtain⟨f,j,e⟩:=aU.1 g;exact b f j (by rw[h.rel.text f j,e])
 intro b f j e;rw[h.rel.text f j]at e;exact b (aU.2 ⟨f,j,zq (h.rel.dI f j).w i e⟩)
variable {b:List Nat}
def vn.Kj{Sp:B8->Nat}{m:Nat}{k f:Nat}{e:List gR}(h:vn c Sp m b k d)(g:vn c Sp m b f e):k=f/\d=e:=by
 obtain⟨_,j,_,l,_⟩:=h;obtain⟨_,h,_,a,_⟩:=g;rw[j]at h;injection (cI h)with g i
 subst i;rw[l]at a;exact⟨g,cI a⟩
def aew{s q:B8}{e T:Ending}(z:Hh s q b e)(d:Mo s q b T):e=T:=by
 rcases z with⟨h,rfl⟩|⟨h,_,n,t,z⟩
 .rcases d with⟨_,rfl⟩|⟨o,_⟩
  .rfl
  rw[h]at o;cases o
 rcases d with⟨o,_⟩|⟨_,S,hv,w,d⟩
 .rw[h]at o;cases o
 have g:=pL h;have A:=AJ h n t;have hI:=I5 h n t;have a:=QY (bh s).2 q;have r:∀R∈(bT s).1,0<=aL (bh s).2 R.ay.ax:=λR d=>g.all _ (gh.2 ⟨R,d,bz⟩)
 rcases z with⟨hn,rfl⟩|⟨_,Q,x,K,E,hE⟩
 .rcases d with⟨_,rfl⟩|⟨i,_⟩
  .rfl
  rw[a,aD i]at hn;cases hn
 rcases d with⟨y,_⟩|⟨i,d⟩
 .rw[a,aB (by rw[y];simp)]at x;cases x
 rw[a,aD i]at x;obtain rfl:=cI x;have c:∀k,0<=aL (bh s).2 k->Q k=S (bH (bh s).2 k):=λk p=>by
  have B:=K;have m:=E;rw[n,g.bB]at B m;exact F0 g.all hv w B m k p
 have B:=aeP g.xD c;have m:=alf A hI g.xD c r B b;rcases hE with⟨_,k,M,hm,p,rfl⟩|⟨y,rfl⟩
 .obtain rfl:=Up hm B;rcases d with⟨l,k',v,u,rfl⟩|⟨y,_⟩
  .obtain⟨k2,N,D,R,_,hB⟩:=m.1 l v;obtain⟨rfl,rfl⟩:=p.Kj R;rw[D]at u;obtain rfl:=cI u;have hf:=hB.afT (Ek i).1;have L:tT (bh s).2 Q k (M.map (·.t)) (bp (aJ q))=xI (bh s).2 S k l (aJ q):=by
    unfold tT xI
    by_cases f:bp (aJ q)∈M.map (·.t)
    .have j:0<=dp l (bI (aJ q)):=Int.not_lt.1 (λh=>hf.1 h f);rw[aD f,aD j]
    have h2:¬(0<=dp l (bI (aJ q))):=(oF (hf.2 f));rw[aB f,aB h2];have hp:(bp (aJ q)).p=(aJ q).ax:=rfl;rw[hp]
    by_cases j:aL (bh s).2 (aJ q).ax<0
    .rw[aB (λhh=>by have:=vT.1 hh.1;omega),aD j]
    have V:0<=aL (bh s).2 (aJ q).ax:=O;rw[aB j,c _ V]
    by_cases W:S (bH (bh s).2 (aJ q).ax)<k
    .rw[aB (λhh=>O),aD W]
    rw[aD ⟨vT.2 V,O⟩,aB W]
   rw[L]
  obtain⟨l,v⟩:=m.2 k M p;exact absurd v (y l)
 rcases d with⟨l,k',v,_⟩|⟨_,rfl⟩
 .obtain⟨k2,N,_,R,_⟩:=m.1 l v;exact absurd R (y _ _ _ B)
 rfl
open Go.Lib
def Mi.use{w f:W8}{b:B8}{k:Bool}{e:Ending}(h:Mi w b k e f)(i:b.size<=2000000):∃(a:O8)(c:Nat),e=Vr (U a (sB b).length c)/\ky f a c (sB b)/\∀d,Below (F (X f)) f d->Calls prog 81 #[U a (sB b).length c,Y b] d (Kt w d):=by
 obtain⟨_,⟨g,_,rfl⟩|⟨rfl,a⟩⟩:=h
 .obtain rfl:=T2 g;refine⟨G,0,rfl,?_,λd _=>adZ w d⟩;exact ky.none _ _ oM
 refine⟨_,_,by rw[xe],⟨by rw[xe];omega,by unfold maxLen;omega,T1 b,λ_=>⟨_,_,rfl,a.lt,λj h=>?_⟩⟩,λd j=>?_⟩
 .rw[xe]at h;rw[lZ,a.cell O];unfold nN;rw[aD h,dr (by rw[xe];exact h)];rfl
 rw[xe];exact adY w d _ b i (a.ai j) L9
def aej(w:W8)(b:B8)(d:b.size<=2000000):ky (w.drew.alloc (Vc (bytesRow b (grownCap w b.size 0 5)) 5 ((bytesRow b (grownCap w b.size 0 5)).size,(bytesRow b (grownCap w b.size 0 5)).size+1))) (P (C (F (X w)) 0 G)) (grownCap w b.size 0 5) (sB b):=by
 refine⟨by rw[xe];exact grownCap_ge _ _ _ _,grownCap_le_maxLen _ _ _ _ oM,T1 b,λ_=>⟨_,_,rfl,oS,λj c=>?_⟩⟩;have a:j<b.size:=by rw[xe]at c;exact c
 have c:(w.drew.alloc (Vc (bytesRow b (grownCap w b.size 0 5)) 5 ((bytesRow b (grownCap w b.size 0 5)).size,(bytesRow b (grownCap w b.size 0 5)).size+1))).heap[F (X w)]?=P (Vc (bytesRow b (grownCap w b.size 0 5)) 5 ((bytesRow b (grownCap w b.size 0 5)).size,(bytesRow b (grownCap w b.size 0 5)).size+1)):=by
  show(w.heap.push _)[F (X w)]?=_
  simp
 rw[lZ];unfold World.cell?;simp only[c];have j:b.data.size=b.size:=rfl;simp[bytesRow,sB,SR,a,j]
def Ue(w:W8)(s q b:B8)(t:Bool)(u:s.size<=maxLen)(r:q.size<=2000000)(l:b.size<=2000000):Calls prog 49 #[Y s,Y q,Y b,Vb t] w (qv w):=by have o:=ahL w b t l;go_in;go_wp2_with fail;refine o.mono ?_;rintro e v i;have h:=H i.1;obtain⟨a,c,rfl,d,f⟩:=i.use l;have g:=H f;have m:=ak9 v s q u r a c (sB b) d;clear o i d f;go_wp2_with fail;refine m.mono ?_;rintro e x⟨i,f⟩;obtain⟨_,rfl⟩:=i.int;have o:=H i;have p:=ag g x f;have n:=H (h.trans (f.mono h.size));clear m i f g;go_wp2_with fail;refine p.mono ?_;rintro e f⟨rfl,g⟩;have i:=H (n.trans g);have m:=run_bytes_of_string (P:=prog) f 9 47 5 b underlying9 underlying47 underlying5;have d:=aej f b l;have j:Hid (Below (F (X w)) w (f.drew.alloc (Vc (bytesRow b (grownCap f b.size 0 5)) 5 ((bytesRow b (grownCap f b.size 0 5)).size,(bytesRow b (grownCap f b.size 0 5)).size+1)))):=H (i.drew.alloc i.size _);generalize(f.drew.alloc (Vc (bytesRow b (grownCap f b.size 0 5)) 5 ((bytesRow b (grownCap f b.size 0 5)).size,(bytesRow b (grownCap f b.size 0 5)).size+1)))=y at*;have k:=akV y s q r _ _ (sB b) d (by rw[xe];omega);rw[xe]at k;clear p g h n d;go_wp2_with fail;refine k.mono ?_;rintro e h⟨d,g⟩;obtain rfl:=aew o d;have n:=H (j.trans (g.mono j.size));clear k d g i j o m;go_wp2;go_ret;exact⟨oS,n⟩
def Ri{B:Nat->Bool}:∀(l:List aP)(i n:Nat)(pl:Nat->Nat)(out:List Nat),(∀f∈l,Z f.fr<=3)->(nu B l i n pl out).2.length<=Z out+4*Z l
 | [],i,n,pl,out,_=>by simp[nu]
 |f::r,i,n,pl,out,h=>by
  have b:=h f bz;have l:∀f∈r,Z f.fr<=3:=λf a=>h f (bG _ a)
  rw[nu]
  split
  .have:=Ri (B:=B) r (i+1) (n+1) (gz pl i n) (out++f.r::f.fr.map (gz pl i n)) l;simp only[br,ff,bF]at this⊢;omega
  have:=Ri (B:=B) r (i+1) n pl out l;simp only[ff];omega
variable {b:Nat}
def aad{l:List aP}{B:Nat->Bool}(h:∀f∈l,Z f.fr<=3)(a:Z l<=50):(lU b l B).length<=1000:=by have:=Ri (B:=B) l 0 0 (λ_=>0) [] h;unfold lU;simp only[ff,kB]at this⊢;omega
variable {a:B8}
def qe.bytes{w:W8}(n:(eK a).1=Bt){S:Nat->Nat}{s:B8}{i:W8}{v:V9}(h:qe w (bh a).2 S (bT a).1 s 50 i v b):∃(x d:Int)(t:O8)(f:List Nat)(c:Nat),v=jV x d (U t (Z f) c)/\(Z f)<=1000/\Ow i (F (X w)) 5 1 (U t (Z f) c) (Z f) (f.map iQ):=by
 cases h with
 |arg _=>exact⟨_,_,G,[],0,rfl,oS,dm _ _ _ _⟩
 |ask _ _ _=>exact⟨_,_,G,[],0,rfl,oS,dm _ _ _ _⟩
 |over _ _ _ _=>exact⟨_,_,G,[],0,rfl,oS,dm _ _ _ _⟩
 |out _ _ _ d e _ _ _ g=>exact⟨_,_,_,_,_,rfl,aad (λf x=>(Q3 n oD d f x).1) e,g⟩
 |yes _ _ _ d e _ _ _ g=>exact⟨_,_,_,_,_,rfl,aad (λf x=>(Q3 n oD d f x).1) e,g⟩
def ajm(h:(eK a).1=Bt):a.size<=maxLen:=by
 unfold maxLen
 by_cases s:a.size<=800
 .omega
 exfalso
 unfold eK at h;rw[aD O]at h
 cases h
def adQ(w w0:W8)(e:Below (F (X w0)) w0 w)(b:Nat)(S bv tv sv:V9)(es:List PE)(mb mt ms:List MB)(h:LW w b S bv tv sv es mb mt ms)(x y:Nat)(R:B8)(lo:Nat)(m:jI R x y w lo)(a bb:Int)(s t u:B8)(f:O8)(Q E:Nat)(hs:s.size<=2000000)(ht:t.size<=2000000)(p:uu w0 f Q E):Calls prog 50 #[Vp (P (C b 0 G)),Va #[I J 7,I J a,I J bb,Y s,Y t,Y u,U f Q E],Va #[Vp (P (C x 0 G)),Vp (P (C y 0 G)),Y R]] w (AY w b S bv tv sv es mb mt ms):=by
 obtain⟨j,M,L,c⟩:=F5 w (Vc #[I J 7,I J a,I J bb,Y s,Y t,Y u,U f Q E] 26) (Vc #[Vp (P (C x 0 G)),Vp (P (C y 0 G)),Y R] 112);have K:=m.ai j;have hC:=UO K s hs 50;have o:=H c;have q:=H m.ok;have W:=H h;have d:=H j;have k:=H e;clear m c j K h e;go_in;go_wp2_with fail;refine hC.mono ?_;generalize(Al (Al w (Vc #[I J 7,I J a,I J bb,Y s,Y t,Y u,U f Q E] 26)) (Vc #[Vp (P (C x 0 G)),Vp (P (C y 0 G)),Y R] 112))=W0 at*;rintro e j⟨_,_,_,rfl,N,K,m,h⟩;obtain⟨V,T,A,B,D,rfl,kV,i⟩:=m.bytes q;unfold jV;have c:=ag o;have l:=h.alloc h.size (Vc #[I J V,I J T,U A (Z B) D] 49);have y1:=YB.new j V T (U A (Z B) D);have r1:=aQ i ((aZ (F (X j)) j).alloc L9 (Vc #[I J V,I J T,U A (Z B) D] 49)) (λg e=>(i.lt g e).2);have g:=H l;have v:=H r1;have z:=H y1;have r:=H ((l.block (F (X w)+1) O).trans M);have n:=H ((l.block (F (X w)) O).trans L);clear hC M L l h r1 i y1 m N K c;go_upto_region 32 with fail;generalize(Al j (Vc #[I J V,I J T,U A (Z B) D] 49))=w1 at*;generalize(F (X j))=A1 at*;have y2:=z.cells.2.2;obtain⟨o6,N⟩:=aj n 6;have M:=anM w1 w0 (F (X W0)) g.size (k.trans ((d.mono k.size).trans (g.mono (bf k.size d.size)))) (bf k.size d.size) A D B v kV f Q E p;have hnt:=p.len;clear v z;go_wp2_with fail;refine M.mono ?_;rintro e w2⟨t1,rfl,_,i⟩;have c:=ag o;have m:=(i.block (F (X w)+1) O).trans r
 have h:=(i.block (F (X w)) O).trans n;have l:=H (d.trans ((g.trans i).mono O));have z:=ajm q;obtain⟨p2,L⟩:=aj m 2;obtain⟨o4,K⟩:=aj h 4;obtain⟨o2,v⟩:=aj h 2;clear M i m h r n y2 o6 N d g c o p;go_wp2_with fail;refine(Ue w2 R t t1 _ z ht O).mono ?_;rintro e c⟨rfl,o⟩;have p:=H (l.trans (o.mono l.size));clear o p2 L o4 K o2 v;go_wp2;go_ret;exact⟨rfl,bv,tv,sv,mb,mt,ms,W.ai p,O,O,O,(ak.refl _ w).bC p⟩
def amO(w:W8)(b:Nat)(c i o n:V9)(j:List PE)(k m l:List MB)(a q:Int)(s t u:B8)(f:O8)(v r:Nat)(h:LW w b c i o n j k m l)(x:s.size<=maxLen)(y:t.size<=2000000)(z:u.size<=2000000):Calls prog 32 #[Vp (P (C b 0 G)),Va #[I J 6,I J a,I J q,Y s,Y t,Y u,U f v r]] w (BU w b c i o n j k m l):=by have e:=(aZ (F (X w)) w).alloc L9 (Vc #[I J 6,I J a,I J q,Y s,Y t,Y u,U f v r] 26);have d:=H e;have g:=H h;clear e h;go_in;go_wp2_with fail;refine(Ue _ s t u _ x y z).mono ?_;rintro e A⟨rfl,h⟩;have p:=H (d.trans (h.mono d.size));clear h;go_wp2;go_ret;exact⟨rfl,c,i,o,n,j,k,m,l,g.ai p,bD _,O,O,O,O,(ak.refl _ w).bC p⟩
def adO(w b D bv tv sv es mb M ms)(h:LW w b D bv tv sv es mb M ms)(x y ps lo)(c:jI ps x y w lo)(hlen:Z M+2<=100000000)(a bb s t u aC nt ct)(hs:s.size<=2000000):Calls prog 50 #[Vp (P (C b 0 G)),Va #[I J 4,I J a,I J bb,Y s,Y t,Y u,U aC nt ct],Va #[Vp (P (C x 0 G)),Vp (P (C y 0 G)),Y ps]] w (AY w b D bv tv sv es mb M ms):=by
 obtain⟨S,R,p,k⟩:=F5 w (Vc #[I J 4,I J a,I J bb,Y s,Y t,Y u,U aC nt ct] 26) (Vc #[Vp (P (C x 0 G)),Vp (P (C y 0 G)),Y ps] 112);have K:=c.ai S;have N:=UN K s hs bb;have z:=H k;have qg:=H c.ok;clear c k;go_in;go_wp2_with fail;refine N.mono ?_;rintro e w1⟨_,f,c,q,m⟩;obtain⟨a1,L,c1,_,rfl⟩:=q.shape;have k:=ag z;have i:=(m.block (F (X w)+1) O).trans R;have d:=(m.block (F (X w)) O).trans p;obtain⟨l,E⟩:=aj i 0;obtain⟨T,V⟩:=aj d 2;obtain⟨g,n⟩:=aj d 3;have o:=K.ai m;have W:=S.trans (m.mono O);have j:=UN o s hs bb;have kW:F (X w)+1<F (X w1):=(aM.1 i).1;have Dt:=H (And.intro f (And.intro c q));have abO:=H m;have oR:=H W;have H1:=H o;have B:=H i;have A:=H d;clear N R p S K m i d W o f c q z;have z:=H k;clear k;go_wp2_with fail;refine j.mono ?_;rintro e w2⟨_,i,d,W,m⟩;obtain⟨R,p,S,_,rfl⟩:=W.shape;have K:=(m.block (F (X w)+1) kW).trans B;have o:=(m.block (F (X w)) O).trans A;obtain⟨q1,FO⟩:=aj K 1;obtain⟨r2,Qi⟩:=aj o 2;obtain⟨r3,Qj⟩:=aj o 3;have N:=H1.ai m;have EC:=afn N s hs bb;have qH:=m.size;have Du:=H (And.intro i (And.intro d W));have Q:=H m;have r:=H (oR.trans (m.mono oR.size));clear j m K o N l E T V g n H1 B A i d W;go_wp2_with fail;refine EC.mono ?_;rintro e K⟨_,_,_,rfl,B,A,m,o⟩;obtain⟨a3,m3,c3,rfl⟩:=m.shape;obtain⟨f,c,q⟩:=ag Dt;obtain⟨i,d,W⟩:=ag Du;obtain⟨rfl,zs,_,uD,qG,j,V⟩:=(ZT qg f c B A q m).Es
 obtain⟨rfl,N,_,vG,T,n,E⟩:=(ZT qg i d B A W m).Es;have sz3:=o.size;have k:=ag z;have r1:Ow K (F (X w)) 9 1 (U a1 L c1) L (zs.map Y):=aQ (aQ (aX j O) Q (λg e=>(j.lt g e).2)) o (λg e=>by have:=(j.lt g e).2;omega);have AH:Ow K (F (X w)) 9 1 (U R p S) p (N.map Y):=aQ (aX n O) o (λg e=>(n.lt g e).2);have d1:∀g∈(U a1 L c1).ownBlock.toList,F (X w)<=g/\g<F (X w1):=λg l=>⟨(r1.lt g (oU l)).1,(j.lt g (oU l)).2⟩
 have d2:∀g∈(U R p S).ownBlock.toList,F (X w1)<=g/\g<F (X K):=λg l=>⟨(n.lt g (oU l)).1,(AH.lt g (oU l)).2⟩
 have R1:=H r1;have R2:=H AH;have R3:=H V;have Tq:=H E;have D1:=H d1;have D2:=H d2;have M1:=H uD;have M2:=H vG;have M3:=H qG;have Ti:=H T;have Fy:L<=1000:=O
 have Fz:p<=1000:=O
 have Gq:=H (h.ai (r.trans (o.mono r.size)));have uU:=H (r.trans (o.mono r.size));have v:=H h;clear j n V E r1 AH d1 d2 f c q i d W Dt Du m B A EC oR r abO Q q1 FO r2 Qi r3 Qj h o k z uD vG qG T;go_wp2_with fail;refine(aah K _ _ a1 a3 L m3 c1 c3 zs (by rw[<-ag M1];exact R1) R3 M1 M3 O).mono ?_;rintro e w4⟨rfl,q,rfl⟩;go_wp2_with fail;refine(aah (K.drewN q) _ _ R a3 p m3 S c3 N (by rw[<-ag M2];exact R2) Tq M2 Ti O).mono ?_;rintro e w4⟨rfl,B,rfl⟩;have A:Hid (LW ((K.drewN q).drewN B) b D bv tv sv es mb M ms):=H (Gq.ai (below_drewN (below_drewN B9 _) _));have n:Hid (Below (F (X w)) w ((K.drewN q).drewN B)):=H (below_drewN (below_drewN uU _) _);have j:Hid (((K.drewN q).drewN B).ownsRow (F (X w)) 9 1 (U a1 L c1) L (zs.map Y)):=R1;have E:Hid (((K.drewN q).drewN B).ownsRow (F (X w)) 9 1 (U R p S) p (N.map Y)):=R2;have T:Hid (∀g∈(U R p S).ownBlock.toList,F (X w1)<=g/\g<((K.drewN q).drewN B).heap.size):=D2;clear R1 R2 R3 Tq Gq uU D2 M1 M2 M3 Ti;generalize(K.drewN q).drewN B=W at*;have k:∀m∈M,∀g∈(U a1 L c1).ownBlock.toList,g∉m.kT:=λm d g l z=>by
  have:=(v.ts.aK m d).lt g z;have:=(D1 g l).1;omega
 go_wp2_with fail;refine(aaW W b D bv tv sv M a1 L c1 _ A.blk A.ts (aX j (aI _)) Fy k O).mono ?_;rintro e w5⟨rfl,tv5,m5,o⟩;clear k;have r:Ow w5 0 9 1 (U R p S) p (N.map Y):=by
  refine gC (aX E (aI _)) (λg l=>o.kept.block g (E.lt g l).2 ?_);have hd:=ag T g (oU l);intro d;rcases bS.1 d with rfl|d
  .have:=v.lt;omega
  rcases aS.1 d with d|d
  .have:=(v.ts.row.lt g (oU d)).2;omega
  have:=(D1 g d).2;omega
 have k:∀m∈M++[m5],∀g∈(U R p S).ownBlock.toList,g∉m.kT:=λm d g l z=>by
  have hd:=ag T g l;rcases aS.1 d with d|d
  .have:=(v.ts.aK m d).lt g z;omega
  rw[bu.1 d]at z;rcases o.rI g z with h|h
  .have:=(D1 g h).2;omega
  omega
 have V:=H o;have Q:=H o.blk;have f:=H o.zX;have c:=H r;have i:=H k;have m:Hid ((M++[m5]).length<=100000000):=by show _<=_;rw[br,sq];omega
 clear o r k;go_wp2_with fail;refine(aaW w5 b D bv tv5 sv (M++[m5]) R p S _ Q f c Fz i m).mono ?_;rintro e w6⟨rfl,o,_,r⟩;have k:=Q6 n V r D1 (λg l=>by have:=(T g l).1;omega);have l:=H (v.Hs k.1 r.blk r.zX k.2);clear k r V Q f c i m;go_wp2;go_ret;exact⟨oS,bv,o,sv,mb,_,ms,l.1,O,oS,O,l.2⟩
end
end Go.Proofs.YtldkpahaocjdpaaGreat
