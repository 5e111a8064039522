/-
  The law's allStrata and still, at lists that hold their owner's mark alone.
-/
import Derived.Test.YtldkpahaocjdpaaGreatA15
import Derived.Test.YtldkpahaocjdpaaGreatA10
import Derived.Laws.BytesArg
import Derived.Test.YtldkpahaocjdpaaGreatA17
import Derived.Test.YtldkpahaocjdpaaGreatA19
import Derived.Lib.BufferWrite
import Derived.Laws.IdiomStrings
import Derived.Lib.SlBuf
import Derived.Lib.LazyBuf
set_option maxHeartbeats 16000000
set_option maxRecDepth 1000000
namespace Go.Proofs.YtldkpahaocjdpaaGreat
open Go.Value renaming slice->U,int->I,string->Y,bool->Vb,pointer->Vp,agg->Va,tuple->Vt
open Go.IntKind renaming i64->J
open Go.Ending renaming returned->Vr
open Go.Obj renaming cells->Vc
open _root_.Option renaming none->G,some->P
open _root_.Bool renaming true->Bt,false->Bf
open Go.Addr renaming mk->C
open _root_.List renaming length->Z
open Go.World renaming heap->X,alloc->Al,setCell->Sc,cell?->Ce,ownsRow->Ow
open _root_.Array renaming size->F
open Go.Proofs.Tryz
set_option linter.defProp false
section
open Go.RowKit Go.Maps
def CM(mk n:Nat):V8:=(List.replicate n ()).flatMap λ_=>iN mk
def air{w b d v n}(h:Ow w b 185 3 v n (CM d n))(k)(m:k<n):∃g a,v=U (P (C g 0 G)) n a/\g<F (X w)/\n<=a/\a<=maxLen/\Ce w (C g (k*3) G)=P (Y ⟨#[]⟩)/\Ce w (C g (k*3+1) G)=P (I J (-1000-(d:Int)))/\Ce w (C g (k*3+2) G)=P (I J 0):=by
 have l:Ow w b 185 3 v (List.replicate n ()).length ((List.replicate n ()).flatMap λ_=>iN d):=by rw[GU];exact h
 obtain⟨g,a,j,-,i,c,f,e⟩:=gu (f:=λ_:Unit=>iN d) (λ_=>rfl) l k (oU m);rw[GU]at j c;refine⟨g,a,j,i,c,f,?_,?_,?_⟩
 .have:=e 0 (by simp[iN]);simpa[iN]using this
 .have:=e 1 (by simp[iN]);simpa[iN]using this
 have:=e 2 (by simp[iN]);simpa[iN]using this
def Hu(w b d a n c)(h:Ow w b 185 3 (U a n c) n (CM d n))(m:n<=100000)(g:d<=1000000000000):Calls prog 96 #[U a n c,I J d] w λe i=>e=Vr (Vb Bt)/\i=w:=by
 have e:=H h;clear h;go_in;go_wp2
 go_loopg [5] n (λh i wr=>∃k:Nat,k<=n/\h=n-k/\i=I J k/\wr=w)
 exact⟨0,aI _,rfl,rfl,rfl⟩
 case round=>
  obtain⟨k,_,_,rfl,rfl⟩:=hrel
  by_cases i:k<n
  .obtain⟨_,_,j,_,_,_,_,_,_⟩:=air e k i;injection j with h l f
   subst h f;go_wp2;go_roundg(n-(k+1));exact⟨k+1,O,rfl,oN,rfl⟩;omega
  go_wp2;go_ret;exact⟨rfl,rfl⟩
variable {d:List bW}{b:List bg}{e:Nat}
def ank(h:oj e b d):∃Q:List (aR×bW),Q.map (·.1)=b.flatMap bg.gS/\Q.map (·.2)=d/\∀x∈Q,∃i,yu i x.1 x.2:=by
 induction h with
 |nil e=>exact⟨[],rfl,rfl,oS⟩
 |cons h t n=>
  obtain⟨q,f,g,j⟩:=h;obtain⟨Q,i,c,a⟩:=n;refine⟨q++Q,by simp[f,i],by simp[g,c],λx h=>?_⟩;rcases aS.1 h with h|h
  .exact⟨_,j x h⟩
  exact a x h
def Zt:∀(Q:List (aR×bW))(y:P9),(∀x∈Q,∃i,yu i x.1 x.2)->qK (Q.map (·.2)) y=(gZ (Q.map (·.1)) y).1
 | [],y,_=>rfl
 |x::r,y,h=>by
  obtain⟨i,Q⟩:=h x bz;have b:=λy=>Zt r y (λy a=>h y (bG _ a))
  have y:x.2.ts.length=x.1.aq.length:=by rw[Q.ts];simp
  simp only[ir,qK,gZ];rw[Q.pd,y,b,Q.place]
  split<;>rfl
def jY{α:Type}(F:α->Int):List α->Int
 | []=>-1
 |x::r=>if 0<=F x then F x else jY F r
def U4{α:Type}(F:α->Int)(b:List α):∀(a:List α),jY F (a++b)=if 0<=jY F a then jY F a else jY F b
 | []=>by simp[jY]
 |x::r=>by
  rw[jA,jY,jY,U4 F b r]
  by_cases h:0<=F x
  .simp[h]
  simp[h]
def aaX(h:oj e b d)(a f):(∀i R c,b[i]?=P R->nC (e+i) R.gS c->jY a c=f R)->jY a d=jY f b:=by
 induction h with
 |nil e=>intro _;rfl
 | @cons e R b d c h t p=>
  intro g;have k:=g 0 R d rfl h
  have l:=p (λi j n m o=>g (i+1) j n (oU m) (by
   have n:e+(i+1)=e+1+i:=O
   rw[n];exact o))
  rw[U4,k,l,jY]
variable {g:List aR}
def YR(h:nC e g d)(a b)(c:∀A∈g,∀M,yu e A M->a M=b A):jY a d=jY b g:=by
 obtain⟨q,rfl,rfl,i⟩:=h
 induction q with
 |nil=>rfl
 |cons x r j=>have h:=c x.1 oS x.2 (i x bz);have f:=j (λA y M l=>c A (bG _ y) M l) (λy l=>i y (bG _ l));simp only[ir,jY,h,f]
def agi(v)(l:List ie):mu v (l.map fV)=l.any (vO v):=by unfold mu;rw[LK];rfl
def ae5(v a):B0 v (a.map iL)=lg v a:=by
 unfold B0 lg
 induction a with
 |nil=>rfl
 |cons A r c=>
  rw[ir,tf,Bv,<-c]
  cases b:A.no with
  |true=>simp[iL,b,C5]
  |false=>simp[iL,b,C5,agi]
def Yz(a:List aR)(b:Nat->Nat):∀(l:List ie)(k:Nat),(∀i (h:i<Z l),b (k+i)=(l[i]).aC)->(match kY (a.map iL) (l.map fV) k with|some i=>(b i:Int)|none=>-1)=gX a l
 | [],k,_=>rfl
 |t::r,k,h=>by
  have c:=Yz a b r (k+1) (λi l=>by
   have:=h (i+1) (oU l)
   rw[show k+1+i=k+(i+1) by omega,this];simp)
  simp only[ir,kY,gX];rw[show(fV t).1=t.jv from rfl,show(fV t).2=t.text from rfl,ae5]
  by_cases l:(t.jv&&!lg t.text a)=Bt
  .rw[aD l,aD l];have:=h 0 oS;simp only[iy,DN]at this;simp only[this]
  rw[aB l,aB l];exact c
def aia{A}(c:A∈g)(d:A.no=Bf):gX g A.aq=-1:=by
 have b:∀l:List ie,(∀t∈l,t∈A.aq)->gX g l=-1:=by
  intro l
  induction l with
  |nil=>intro _;rfl
  |cons t r f=>
   intro h;rw[gX,aB,f (λu e=>h u (bG _ e))]
   cases e:t.jv with
   |false=>simp
   |true=>
    have u:lg t.text g=true:=by unfold lg;rw[va];refine⟨A,c,?_⟩;unfold C5;rw[d];simp only[LC,Br];rw[va];exact⟨t,h t bz,by simp[vO,e]⟩
    simp[u]
 exact b A.aq (λt h=>h)
def Yw(a:List aR):∀l:List aR,(∀A∈l,A∈a)->mP a l=jY (λA=>gX a A.aq) l
 | [],_=>rfl
 |A::r,h=>by
  rw[mP,jY,<-Yw a r (λB l=>h B (bG _ l))]
  cases l:A.no with
  |true=>simp
  |false=>rw[aia (h A bz) l];simp
def abc:∀a:List bg,iF a=jY uL a
 | []=>rfl
 |R::r=>by rw[iF,jY,abc r]
def Ki(rs:List iu)(M:bW):Int:=match kY (yE rs M.bn) M.ts 0 with|some i=>(M.pl i:Int)|none=>-1
def ab9(a:List iu):∀M:List bW,qP a M=jY (Ki a) M
 | []=>rfl
 |M::r=>by
  rw[qP,jY,<-ab9 a r];unfold Ki
  cases kY (yE a M.bn) M.ts 0 with
  |none=>simp
  |some i=>simp
def anQ(h:oj 0 b d):qP (b.map fm) d=iF b:=by
 rw[ab9,abc];refine aaX h _ _ (λi R f c A=>?_);rw[lZ]at A;have f:yE (b.map fm) i=R.body.map iL:=by unfold yE;rw[gP,c];rfl
 rw[YR A (Ki (b.map fm)) (λA=>gX R.body A.aq) (λA _ M a=>?_)]
 .unfold bg.gS uL;rw[jY,Yw R.body R.body (λA e=>e)]
 unfold Ki;rw[a.bn,f,a.ts];exact Yz R.body M.pl A.aq 0 (λi c=>by rw[lZ];exact a.pl i c)
def XZ(a:B8):∀(l:P9)(k:Nat),0<=ij a l k->(l.getD (ij a l k-k).toNat (a,0)).1=a
 | [],k,h=>by simp[ij]at h
 |x::r,k,h=>by
  unfold ij at h⊢
  by_cases l:(x.1.toList==a.toList)=Bt
  .rw[aD l];simp;exact kJ.1 l
  rw[aB l]at h⊢;have b:=XZ a r (k+1) h;have:=(Fl a r (k+1) h).1;have e:(ij a r (k+1)-(k:Int)).toNat=(ij a r (k+1)-((k+1:Nat):Int)).toNat+1:=O
  rw[e];simpa using b
def AE(ps:P9)(i:Nat):B8:=(ps.getD i (⟨#[]⟩,0)).1
variable {a:P9}
def xB{x}(h:0<=aL a x):AE a (bH a x)=x:=by have b:=XZ x a 0 h;have c:=mS h;unfold AE bH;rw[show ij x a 0=aL a x from rfl]at b;simp only[Int.natCast_zero,Int.sub_zero]at b;rw[S9,dr c]at b⊢;simpa using b
variable {c f:B8}
def aht(b:0<=aL a c)(g:0<=aL a f):(aL a c==aL a f)=(c.toList==f.toList):=by
 rw[oX]
 constructor
 .intro h;have e:aL a c=aL a f:=by simpa using h
  have d:=xB b;rw[show bH a c=bH a f by unfold bH;rw[e],xB g]at d;rw[d];simp
 intro h;rw[kJ.1 h];simp
def O7{x}:(x,c)∈jS (b.map fm)↔∃R∈b,∃A∈R.body,x=R.ay.ax/\c=A.ax:=by
 unfold jS vv
 constructor
 .intro h;obtain⟨_,g,h⟩:=gh.1 h;obtain⟨R,y,rfl⟩:=aU.1 g;obtain⟨_,f,h⟩:=aU.1 h;obtain⟨A,a,rfl⟩:=aU.1 f;injection h with d e
  exact⟨R,y,A,a,d.symm,e.symm⟩
 rintro⟨R,y,A,a,rfl,rfl⟩;exact gh.2 ⟨fm R,fW y,aU.2 ⟨iL A,fW a,rfl⟩⟩
def UI :∀(l:List aR) {M:Nat->Nat->Bool} {h b:Nat},vx a e l M h b=Bt->M h b=Bt\/(h=e/\∃A∈l,b=bH a A.ax)
 | [],M,h,b,d=>.inl d
 |A::r,M,h,b,d=>by
  rcases UI r d with l|⟨l,B,f,c⟩
  .unfold sg at l;simp at l;rcases l with⟨l,c⟩|l
   .exact .inr ⟨l,A,bz,c⟩
   exact .inl l
  exact .inr ⟨l,B,bG _ f,c⟩
def UJ :∀(l:List bg) {M:Nat->Nat->Bool} {e b:Nat},rH a l M e b=Bt->M e b=Bt\/∃R∈l,e=bH a R.ay.ax/\∃A∈R.body,b=bH a A.ax
 | [],M,e,b,d=>.inl d
 |R::r,M,e,b,d=>by
  rcases UJ r d with l|⟨f,i,l⟩
  .rcases UI R.body l with c|⟨c,A,h,g⟩
   .exact .inl c
   exact .inr ⟨R,bz,c,A,h,g⟩
  exact .inr ⟨f,bG _ i,l⟩
def ag5(e:Nat->Nat->Prop)(i:∀a b c,e a b->e b c->e a c)(n):∀d m(M:Nat->Nat->Bool),n-m=d->(∀a b,M a b=Bt->e a b)->∀a b,kU n M m a b=Bt->e a b:=by
 intro d
 induction d with
 |zero=>intro m M j f a b h;rw[Nk O]at h;exact f a b h
 |succ d k=>
  intro m M j f a b h;rw[Nl O]at h;refine k (m+1) _ O (λx y c=>?_) a b h;rw[Vi n m (n-0) 0 M rfl]at c;simp at c;rcases c with g|g
  .exact f x y g
  exact i x m y (f x m g.1.2) (f m y g.2)
def akZ{E b}(h:o7 E f b)(t:o7 E b c):o7 E f c:=by
 induction t with
 |one d=>exact .next h d
 |next _ d e=>exact .next e d
def age(k:OU a (b.flatMap bg.gS))(n:0<=aL a c)(o:0<=aL a f):vC (jS (b.map fm)) c f=jf a b (bH a c) (bH a f):=by
 have l:∀R∈b,0<=aL a R.ay.ax:=λR e=>k _ (gh.2 ⟨R,e,bz⟩)
 have d:∀R∈b,∀A∈R.body,0<=aL a A.ax:=λR e A g=>k _ (gh.2 ⟨R,e,bG _ g⟩)
 rw[oX];unfold vC;simp only[qW]
 constructor
 .intro h;have i:∀y,o7 (jS (b.map fm)) c y->jf a b (bH a c) (bH a y)=Bt/\0<=aL a y:=by
   intro y p
   induction p with
   |one m=>obtain⟨R,e,A,g,rfl,rfl⟩:=O7.1 m;exact⟨Nz e g,d R e A g⟩
   |next t m j=>obtain⟨R,e,A,g,rfl,rfl⟩:=O7.1 m;exact⟨NA (mS n) (mS j.2) (mS (d R e A g)) j.1 (Nz e g),d R e A g⟩
  exact(i f h).1
 intro h;have:=ag5 (λi j=>o7 (jS (b.map fm)) (AE a i) (AE a j)) (λ_ _ _=>akZ) (Z a) (Z a) 0 (rH a b (λ_ _=>Bf)) rfl (λi j y=>?_) _ _ h
 .rw[xB n,xB o]at this;exact this
 rcases UJ b y with m|⟨R,e,rfl,A,g,rfl⟩
 .cases m
 simp only[xB (l R e),xB (d R e A g)];exact .one (O7.2 ⟨R,e,A,g,rfl,rfl⟩)
def Us(c:P9)(a:Nat->Nat->Bool)(b:B8):∀l:List aR,nI c a b l=jY (λA=>if nH c a b A then(A.aO:Int) else -1) l
 | []=>rfl
 |A::r=>by
  rw[nI,jY,<-Us c a b r]
  by_cases h:nH c a b A=Bt
  .simp[h]
  simp[h]
def Ut(b:P9)(a:Nat->Nat->Bool):∀c:List bg,ju b a c=jY (λR=>nI b a R.ay.ax R.body) c
 | []=>rfl
 |R::r=>by rw[ju,jY,Ut b a r]
def Uu(a:List iu):∀h:List bW,mL a h=jY (λM=>if yG a M then(M.start:Int) else -1) h
 | []=>rfl
 |M::r=>by
  rw[mL,jY,<-Uu a r]
  by_cases h:yG a M=Bt
  .simp[h]
  simp[h]
def aeV(h:oj 0 b d)(c:OU a (b.flatMap bg.gS))(g:∀R∈b,R.ay.no=Bf):mL (b.map fm) d=ju a (jf a b) b:=by
 rw[Uu,Ut];refine aaX h _ _ (λi R f A k=>?_);rw[lZ]at k;have f:=tg A;have l:Cd (b.map fm) i=R.ay.ax:=by unfold Cd;rw[gP,A];rfl
 have j:=c R.ay (gh.2 ⟨R,f,bz⟩);rw[YR k _ (λA=>if nH a (jf a b) R.ay.ax A then(A.aO:Int) else -1) (λA e M k=>?_)]
 .unfold bg.gS;rw[jY,Us];have:nH a (jf a b) R.ay.ax R.ay=false:=by unfold nH;rw[g R f];rfl
  simp[this]
 have i:=c A (gh.2 ⟨R,f,e⟩);have e:yG (b.map fm) M=nH a (jf a b) R.ay.ax A:=by unfold yG nH;rw[k.bn,l,k.neg,k.pd,age c i j,aht i j]
 simp only[e]
 by_cases M:nH a (jf a b) R.ay.ax A=Bt
 .rw[aD M,aD M];have:A.no=true:=by unfold nH at M;simp at M;exact M.1
  rw[k.start this]
 rw[aB M,aB M]
def alJ(f):∀{p:Nat} {b:Int} {l:List bg},(∀R∈l,R.ay.no=Bf)->∀R∈(pz c f p b l).1,R.ay.no=false:=by
 induction f with
 |zero=>intro p b l h;exact h
 |succ f s=>
  intro p b l h;rw[pz]
  split
  .refine s (λR a=>?_);rcases aS.1 a with a|a
   .exact h R a
   simp at a;subst a;rfl
  exact h
def Yu(s):JG s=eK s:=by
 unfold JG eK
 by_cases a:800<s.size
 .rw[aD a,aD a]
 rw[aB a,aB a]
 cases e:(dL s).1 with
 |false=>have h:=(JE s).2 e;rw[aD rfl,h,aD O]
 |true=>
  obtain⟨n,o,d⟩:=(JE s).1 e;rw[aB (show ¬(Bt=Bf) by decide),n,aB (show ¬((0:Int)<=-1) by decide),o];obtain⟨Q,g,i,j⟩:=ank d;have k:qK (dL s).2.2.2 []=(bh s).1:=by unfold bh;rw[<-g,<-i];exact Zt Q [] j
  have m:=anQ d;unfold vA;rw[k,m]
  by_cases b:0<=(bh s).1
  .simp[b]
  have h:OU (bh s).2 ((bT s).1.flatMap bg.gS):=My _ b;have l:=aeV d h (alJ 31 oS);rw[l];rw[aB b,aB b]
  by_cases c:0<=iF (bT s).1
  .simp[c]
  rw[aB c,aB c]
  by_cases f:0<=ju (bh s).2 (jf (bh s).2 (bT s).1) (bT s).1
  .simp[f]
  simp[f]
variable {d:Nat->Nat}
def abg(h:kQ a b d):ll (b.map fm) (λk=>d (bH a k)):=by intro R f l e;obtain⟨Q,c,rfl⟩:=aU.1 f;obtain⟨A,k,rfl⟩:=aU.1 e;exact h Q c A k
variable {c:B8->Nat}
def Q8(h:ll (b.map fm) c)(g:OU a (b.flatMap bg.gS)):kQ a b (λi=>c (AE a i)):=by intro R i A d;have j:=h (fm R) (fW i) (iL A) (fW d);have e:0<=aL a R.ay.ax:=g _ (gh.2 ⟨R,i,bz⟩);have f:0<=aL a A.ax:=g _ (gh.2 ⟨R,i,bG _ d⟩);unfold sn;simp only[xB e,xB f];exact j
def F0(e:OU a (b.flatMap bg.gS))(j:kQ a b d)(i:oe a b d)(g:ll (b.map fm) c)(f:og (b.map fm) c)(k)(h:0<=aL a k):c k=d (bH a k):=by refine Nat.le_antisymm (f _ (abg j) k) ?_;have:=i _ (Q8 g e) (bH a k);simp only[xB h]at this;exact this
def qp(ps:P9):Prop:=(ps.map (·.1)).Nodup
variable {e:B8}
def X7 :∀{l:P9} {k:Nat},ij e l k<0->∀p∈l,p.1≠e
 | [],_,_,p,l=>by cases l
 |x::r,k,h,p,l=>by
  rw[ij]at h
  split at h
  .omega
  rename_i b;rcases bS.1 l with rfl|l
  .exact λa=>b (kJ.2 a)
  exact X7 h p l
def ajn(h:qp a)(i n):qp (jh a i n):=by
 unfold jh
 split
 .rename_i g;unfold qp;rw[fg,pF];refine⟨h,oS,λd f b c e=>?_⟩;obtain⟨p,d,rfl⟩:=aU.1 f;simp at c;exact X7 g p d (e.trans c)
 exact h
def Zo:∀(l a:P9),qp a->qp (iU l a)
 | [],_,h=>h
 |x::r,_,h=>Zo r _ (ajn h x.1 x.2)
def PG:∀{a:P9},qp a->∀p∈a,bE a p.1=P p.2
 | [],_,p,a=>by cases a
 |x::r,h,p,a=>by
  have b:=wN.1 h;rw[bE];rcases bS.1 a with rfl|a
  .rw[aD (kJ.2 rfl)]
  have:¬(x.1.toList==p.1.toList)=true:=λe=>b.1 (aU.2 ⟨p,a,(kJ.1 e).symm⟩)
  rw[aB this];exact PG b.2 p a
def JA:∀{a:P9},qp a->∀(i k:Nat)(e:i<Z a),ij a[i].1 a k=(k+i:Nat)
 | [],_,i,_,e=>by simp at e
 |x::r,h,i,k,e=>by
  have b:=wN.1 h;rw[ij]
  cases i with
  |zero=>rw[aD (by rw[DN];exact kJ.2 rfl)];simp
  |succ i=>
   have a:i<Z r:=by simpa using e
   have:¬(x.1.toList==((x::r)[i+1]).1.toList)=true:=λe=>b.1 (aU.2 ⟨r[i],aN a,by
    have:=kJ.1 e;rw[DM]at this
    exact this.symm⟩)
   rw[aB this,DM,JA b.2 i (k+1) a];omega
def ajh(h:qp a):(bE a e).isSome=Bt↔e∈a.map (·.1):=by
 constructor
 .intro c;obtain⟨_,d⟩:=tq.1 c;obtain⟨p,b,k⟩:=Py d;exact aU.2 ⟨p,b,k⟩
 intro c;obtain⟨p,b,rfl⟩:=aU.1 c;rw[PG h p b];rfl
def zr(a:P9)(S:Nat->Nat):∀k,(sW a S k).length=k
 | 0=>rfl
 |k+1=>by rw[sW,br,zr];rfl
def Q4(a:P9)(S:Nat->Nat):∀(k i:Nat),i<k->(sW a S k)[i]?=P ((a[i]?.getD default).1,S i,(a[i]?.getD default).2)
 | 0,i,h=>by omega
 |k+1,i,h=>by
  rw[sW]
  by_cases e:i<k
  .rw[wL (by rw[zr];exact e),Q4 a S k i e]
  have:i=k:=O
  subst this;rw[ug (by rw[zr];exact bD _),zr];simp
def anK(a S):(sW a S (Z a)).map (·.1)=a.map (·.1):=by
 apply GN;intro i;rw[gP,gP]
 by_cases b:i<Z a
 .rw[Q4 a S _ i b,dr b];rfl
 rw[od (by rw[zr];omega),od O];rfl
def anJ{S z}(h:z∈sW a S (Z a)):∃i b,z=(a[i].1,S i,a[i].2):=by obtain⟨i,b,e⟩:=GX.1 h;rw[zr]at b;have c:=Q4 a S _ i b;rw[dr (by rw[zr];exact b),e,dr b]at c;exact⟨i,b,cI c⟩
def Z9:∀(h b:List B8),h.Pairwise (λx y=>fc x y=Bt)->b.Pairwise (λx y=>fc x y=Bt)->(∀k,k∈h↔k∈b)->h=b
 | [],[],_,_,_=>rfl
 | [],y::r,_,_,h=>by have:=(h y).2 bz;cases this
 |x::r,[],_,_,h=>by have:=(h x).1 bz;cases this
 |x::r,y::q,hx,hy,h=>by
  obtain⟨b,d⟩:=BB.1 hx;obtain⟨c,f⟩:=BB.1 hy;have e:x=y:=by
   rcases bS.1 ((h x).1 bz)with e|e
   .exact e
   rcases bS.1 ((h y).2 bz)with a|a
   .exact a.symm
   have:=CI (c x e) (b y a);rw[Ay]at this;cases this
  subst e;rw[Z9 r q d f λk=>?_]
  constructor
  .intro a;rcases bS.1 ((h k).1 (bG _ a))with e|e
   .subst e;have:=b k a;rw[Ay]at this;cases this
   exact e
  intro a;rcases bS.1 ((h k).2 (bG _ a))with e|e
  .subst e;have:=c k a;rw[Ay]at this;cases this
  exact e
def amR(o:qp a)(f:OU a (b.flatMap bg.gS))(D:kQ a b d)(w:oe a b d)(u:ll (b.map fm) c)(q:og (b.map fm) c){m} (E:m.Pairwise (λx y=>fc x y=Bt)) (A:∀k,k∈m↔(bE a k).isSome=Bt) {n} (B:wX n) (v:n.Perm (sW a d (Z a))):n.flatMap jC=m.flatMap (mC a c)/\(Z n)=Z m:=by
 have g:(n.map (·.1)).Perm (a.map (·.1)):=by rw[<-anK a d];exact v.map _
 have s:(n.map (·.1)).Nodup:=g.nodup_iff.2 o;have t:(n.map (·.1)).Pairwise (λx y=>fc x y=Bt):=by
  have p:(n.map (·.1)).Pairwise (λx y=>fc y x=Bf):=wO.2 B;refine(p.and s).imp λ{x y} e=>?_
  cases z:fc x y with
  |true=>rfl
  |false=>exact absurd (Fo z e.1) e.2
 have e:n.map (·.1)=m:=Z9 _ _ t E λk=>by rw[A,ajh o];exact g.mem_iff
 have k:∀z∈n,jC z=mC a c z.1:=by
  intro z k;obtain⟨i,r,rfl⟩:=anJ (v.mem_iff.1 k);have l:=JA o i 0 r;have h:0<=aL a a[i].1:=by show 0<=ij _ _ 0;rw[l];omega
  have p:bH a a[i].1=i:=by unfold bH;rw[show aL a a[i].1=((0+i:Nat):Int) from l];omega
  have j:=F0 f D w u q a[i].1 h;rw[p]at j;simp only[jC,mC,j,PG o a[i] (aN r),yp]
 refine⟨?_,by rw[<-e];simp⟩;rw[<-e,yl];have:∀l:List nE,(∀z∈l,jC z=mC a c z.1)->l.flatMap jC=l.flatMap (λz=>mC a c z.1):=by
  intro l
  induction l with
  |nil=>intro _;rfl
  |cons j r i=>intro h;rw[lY,lY,h j bz,i λz k=>h z (bG _ k)]
 exact this n k
def aag(w h g a b n m c d f)(i:Ow w h 185 3 (U a n c) (Z f) (f.flatMap jC))(k:Ow w g 185 3 (U b m d) (Z f) (f.flatMap jC))(r:n=Z f)(p:m=Z f)(A:Z f<=1000):Calls prog 86 #[U a n c,U b m d] w λe t=>e=Vr (Vb Bt)/\∃q,t=w.drewN q:=by
 subst r p;have p:=H i;have r:=H k;clear i k;go_in;go_wp2
 go_loopg [5] (Z f) (λe i wr=>∃(k q:Nat),k<=Z f/\e=Z f-k/\i=I J k/\wr=w.drewN q)
 exact⟨0,0,aI _,rfl,rfl,rfl⟩
 case round=>
  obtain⟨k,q,_,_,rfl,rfl⟩:=hrel
  by_cases i:k<Z f
  .obtain⟨_,_,t,-,_,_,_,e⟩:=gu (f:=jC) (λ_=>rfl) p k i;injection t with j s l
   subst j l;obtain⟨_,_,o,-,_,_,_,z⟩:=gu (f:=jC) (λ_=>rfl) r k i;injection o with j s l
   subst j l;have l:=e 0 O;have j:=e 1 O;have u:=e 2 O;have v:=z 0 O;have x:=z 1 O;have y:=z 2 O;simp only[jC,iy,aT,bx]at l j u v x y;clear e z;generalize f[k]=z at*;go_wp2;go_quiet(fail);go_wp2;go_roundg(Z f-(k+1));exact⟨k+1,q+nq,O,rfl,oN,oS⟩;omega
  go_wp2;go_ret;exact⟨rfl,q,rfl⟩
variable {a:Int}{b:Nat}
def akc(n:a<0)(c:0<b):∃k,k<b/\-(a+1).tmod b=(k:Int):=by obtain⟨d,k⟩:∃d:Nat,a+1=-(d:Int):=⟨(-(a+1)).toNat,O⟩;refine⟨d%b,Nat.mod_lt _ c,?_⟩;rw[k,Int.neg_tmod,Int.neg_neg,Int.tmod_eq_emod_of_nonneg O];simp
def akb(n:0<=a)(c:0<b):∃k,k<b/\a%b=(k:Int):=by obtain⟨d,rfl⟩:∃d:Nat,a=(d:Int):=⟨a.toNat,O⟩;exact⟨d%b,Nat.mod_lt _ c,oS⟩
def amM(w a b j k l m d f g h n o p q)(v:Ow w a 185 3 (U j d n) d (CM b d))(x:Ow w a 185 3 (U k f o) f (CM b f))(y:Ow w a 185 3 (U l g p) g (CM b g))(z:Ow w a 185 3 (U m h q) h (CM b h))(r:d<=100000)(s:f<=100000)(t:g<=100000)(u:h<=100000)(c:b<=1000000000000):Calls prog 54 #[Va #[U j d n,U k f o,U l g p,U m h q,I J b]] w λe i=>e=Vr (Vb Bt)/\Below (F (X w)) w i:=by have E:=(aZ (F (X w)) w).alloc L9 (Vc #[U j d n,U k f o,U l g p,U m h q,I J b] 120);have H1:=H v;have A:=H x;have B:=H y;have D:=H z;clear v x y z;go_in;go_wp2_with fail;refine(Hu _ a b j d n (H1.alloc _) r c).mono ?_;rintro e i⟨rfl,rfl⟩;go_wp2_with fail;refine(Hu _ a b k f o (A.alloc _) s c).mono ?_;rintro e i⟨rfl,rfl⟩;go_wp2_with fail;refine(Hu _ a b l g p (B.alloc _) t c).mono ?_;rintro e i⟨rfl,rfl⟩;go_wp2_with fail;refine(Hu _ a b m h q (D.alloc _) u c).mono ?_;rintro e i⟨rfl,rfl⟩;go_wp2;go_ret;exact⟨rfl,E⟩
def Ij(x:B8):V8:=[Y x]
def afg(a:List B8):a.map Y=a.flatMap Ij:=by
 induction a with
 |nil=>rfl
 |cons x r b=>rw[ir,lY,b];rfl
def aah(w h g a b n m c d f)(i:Ow w h 9 1 (U a n c) (Z f) (f.map Y))(k:Ow w g 9 1 (U b m d) (Z f) (f.map Y))(r:n=Z f)(p:m=Z f)(u:Z f<=1000):Calls prog 89 #[U a n c,U b m d] w λe o=>e=Vr (Vb Bt)/\∃q,o=w.drewN q:=by
 subst r p;rw[afg]at i k;have p:=H i;have r:=H k;clear i k;go_in;go_wp2
 go_loopg [5] (Z f) (λo i wr=>∃(k q:Nat),k<=Z f/\o=Z f-k/\i=I J k/\wr=w.drewN q)
 exact⟨0,0,aI _,rfl,rfl,rfl⟩
 case round=>
  obtain⟨k,q,_,_,rfl,rfl⟩:=hrel
  by_cases i:k<Z f
  .obtain⟨_,_,t,-,_,_,_,o⟩:=gu (f:=Ij) (λ_=>rfl) p k i;injection t with e s j
   subst e j;obtain⟨_,_,l,-,_,_,_,z⟩:=gu (f:=Ij) (λ_=>rfl) r k i;injection l with e s j
   subst e j;have j:=o 0 oS;have e:=z 0 oS;simp only[Ij,iy,yo,aT]at j e;clear o z;generalize f[k]=z at*;go_wp2;go_quiet(fail);go_wp2;go_roundg(Z f-(k+1));exact⟨k+1,q+nq,O,rfl,oN,oS⟩;omega
  go_wp2;go_ret;exact⟨rfl,q,rfl⟩
def ahi:(prog.info? 112).map (λi=>(i.zero,i.size,i.bytes))=P (P (Va #[Vp G,Vp G,Y ⟨#[]⟩]),3,32):=oK
def YK:∀(l:List aR)(a:P9),(gZ l a).1<0->mE (l.map λA=>(A.ax,Z A.aq)) a/\(gZ l a).2=iU (l.map λA=>(A.ax,Z A.aq)) a
 | [],_,_=>⟨trivial,rfl⟩
 |A::r,a,h=>by
  rw[gZ]at h⊢
  split at h
  .rename_i a;rw[aD a];obtain⟨A,l⟩:=YK r _ h;exact⟨⟨a,A⟩,l⟩
  exfalso;simp only at h;omega
def ak2(R):jl (fm R)=R.gS.map λA=>(A.ax,Z A.aq):=by simp[jl,fm,bg.gS,iL]
def ak0(a:List bg):(a.map fm).flatMap jl=(a.flatMap bg.gS).map λA=>(A.ax,Z A.aq):=by
 induction a with
 |nil=>rfl
 |cons R r A=>rw[ir,lY,lY,fg,A,ak2]
def aiC(a b n):(jh a b n).length<=Z a+1:=by unfold jh;split<;>simp
def YM:∀(l a:P9),(iU l a).length<=Z a+Z l
 | [],_=>bD _
 |x::r,a=>by
  have l:=YM r (jh a x.1 x.2);have b:=aiC a x.1 x.2;rw[iU,ff];omega
def akz(s f):∀{p:Nat} {a:List iu} {b:List bW},Z a<=30->(mA s f p a b).2.2.1.length<=30:=by
 induction f with
 |zero=>intro p a b h;exact h
 |succ f c=>
  intro p a b h;rw[mA]
  split
  .exact h
  split
  .exact h
  split
  .refine c ?_;rw[br,sq];omega
  exact h
def Nj{α β:Type}(f:α->List β)(c:Nat):∀(l:List α),(∀x∈l,(f x).length<=c)->(l.flatMap f).length<=c*Z l
 | [],_=>aI _
 |x::r,h=>by
  have l:=h x bz;have a:=Nj f c r λy x=>h y (bG _ x)
  rw[lY,br,ff,Nat.mul_add,yo];omega
structure Ky(s:B8)(rs:List iu)(ps:P9):Prop where
 bB:rs=(bT s).1.map fm
 oE:ps=(bh s).2
 len:Z rs<=30
 body:∀R∈rs,Z R.body<=3
 pd:∀R∈rs,R.pd.size<=800
 CL:∀R∈rs,∀l∈R.body,l.pd.size<=800
 Ei:mE (rs.flatMap jl) []
 oz:iU (rs.flatMap jl) []=ps
 dc:Z ps<=120
 all:OU ps ((bT s).1.flatMap bg.gS)
 xD:qp ps
 pV:∃f,ll rs f/\∀k,f k<=1000
variable {a:B8}
def pL(h:(eK a).1=Bt):Ky a (dL a).2.2.1 (bh a).2:=by
 unfold eK at h
 by_cases m:800<a.size
 .rw[aD m]at h;cases h
 rw[aB m]at h
 by_cases n:0<=(bT a).2.2
 .rw[aD n]at h;cases h
 rw[aB n]at h
 by_cases g:0<=(bh a).1
 .rw[aD g]at h;cases h
 rw[aB g]at h
 by_cases o:0<=iF (bT a).1
 .rw[aD o]at h;cases h
 rw[aB o]at h
 by_cases p:0<=ju (bh a).2 (jf (bh a).2 (bT a).1) (bT a).1
 .rw[aD p]at h;cases h
 obtain⟨r,t⟩:=JE a;have q:(dL a).1=true:=by
  cases j:(dL a).1 with
  |true=>rfl
  |false=>exfalso;have:=t j;omega
 obtain⟨_,j,_⟩:=r q;obtain⟨i,_⟩:=ZL a O q;have c:(dL a).2.2.1.length<=30:=akz a 31 oS;have s:OU (bh a).2 ((bT a).1.flatMap bg.gS):=My _ g;obtain⟨w,x⟩:=YK ((bT a).1.flatMap bg.gS) [] (by unfold bh at g;omega);have e:(dL a).2.2.1.flatMap jl=((bT a).1.flatMap bg.gS).map λA=>(A.ax,Z A.aq):=by rw[j,ak0]
 have A:iU ((dL a).2.2.1.flatMap jl) []=(bh a).2:=by rw[e];exact x.symm
 have v:=Nj jl 4 (dL a).2.2.1 (λR k=>by have:=(i R k).2.1;simp[jl];omega);have d:=YM ((dL a).2.2.1.flatMap jl) [];rw[A]at d;have b:(bh a).2.length<=120:=by rw[kB]at d;omega
 obtain⟨f,u,l⟩:=abh _ _ s p;exact⟨j,rfl,c,λR k=>(i R k).2.1,λR k=>(i R k).1,λR k=>(i R k).2.2,by rw[e];exact w,A,b,s,by rw[<-A];exact Zo _ [] List.nodup_nil,⟨λk=>f (bH (bh a).2 k),by rw[j];exact abg u,λk=>bf (l (bH (bh a).2 k)) O⟩⟩
def Ky.named{c s}(h:Ky a c s):∀R∈c,(∃n,bE s R.pd=P n)/\∀l∈R.body,∃n,bE s l.pd=P n:=by intro R b;rw[h.bB]at b;obtain⟨Q,n,rfl⟩:=aU.1 b;refine⟨⟨_,(CQ _ s 0).2 (h.all _ (gh.2 ⟨Q,n,bz⟩))⟩,λl d=>?_⟩;obtain⟨_,l,rfl⟩:=aU.1 d;exact⟨_,(CQ _ s 0).2 (h.all _ (gh.2 ⟨Q,n,bG _ l⟩))⟩
def zt(a:List Nat)(w:W8)(b:W8->Nat->Prop):Prop:=∃w0 lo,ak (List.range lo) w0 w/\(∀c∈a,c<lo\/F (X w0)<=c)/\b w0 lo
variable {m:List Nat}{a c:W8}
def zt.step{e D b}(h:zt m a b)(k:ak D a c)(j:∀d∈D,d∈m\/F (X a)<=d)(i:∀g∈e,g∈m\/F (X a)<=g):zt e c b:=by
 obtain⟨p,o,f,d,l⟩:=h;have q:=f.size;refine⟨p,o,f.step k (λx n=>?_),λg w=>?_,l⟩
 .rcases j x n with h|h
  .rcases d x h with h|h
   .exact .inl (tj.2 h)
   exact .inr h
  exact .inr O
 rcases i g w with h|h
 .exact d g h
 exact .inr O
structure jI(s:B8)(xb yb:Nat)(w:W8)(lo:Nat):Prop where
 ok:(eK s).1=Bt
 x:∃rs:List PR,oi w lo xb rs/\rs.map (·.R)=(dL s).2.2.1
 y:∃(rs:List RR)(ps:P9)(rv pv tv:V9)(gs:Nat)(S:Nat->Nat),lo<=yb/\yb<gs/\kC w yb rs ps rv pv tv (U (P (C gs 0 G)) (Z ps) (Z ps))/\jW w gs (Z ps) S/\kQ ps (rs.map (·.R)) S/\oe ps (rs.map (·.R)) S/\rs.map (·.R)=(bT s).1/\ps=(bh s).2/\OU ps ((bT s).1.flatMap bg.gS)
variable {g:Nat}
def oi.ahy{f}(h:oi a g b f)(k:ak (List.range g) a c):oi c g b f:=by obtain⟨w,e,i,d,j⟩:=h;exact⟨w,e,lC i k (λx h=>.inl (oF (tj.1 h))),d,j.iT k (λx h=>.inl (tj.1 h))⟩
def jW.CG{S}(h:jW a b g S)(k:ak m a c)(B:b∉m):jW c b g S:=
 ⟨iz h.sz k.size,λi j=>(k.cell (p:=(C b i G)) h.sz B).trans (h.cell i j),λj=>(k.frozen (p:=(C b j G)) h.sz B).trans (h.fz j)⟩
variable {n:B8}
def jI.kept{w}(h:jI n b g a w)(k:ak (List.range w) a c):jI n b g c w:=by obtain⟨t,s,o⟩:=h.x;obtain⟨d,q,u,r,v,f,S,e,i,j,l,m⟩:=h.y;exact⟨h.ok,⟨t,s.ahy k,o⟩,d,q,u,r,v,f,S,e,i,kc.kept j k (λx p=>by have:=tj.1 p;omega),l.CG k (λx=>by have:=tj.1 x;omega),m⟩
def zt.vy(h:zt m a (jI n b g)):∃s,jI n b g a s:=by obtain⟨_,s,f,_,e⟩:=h;exact⟨s,e.kept f⟩
structure PE where
 x:Nat
 y:Nat
 s:B8
def PE.cells(p:PE):V8:=[Vp (P (C p.x 0 G)),Vp (P (C p.y 0 G)),Y p.s]
def jE(n:Nat):V8:=[I .u8 (n%251:Nat)]
def jO(n:Nat):V8:=[Y ⟨#[35,UInt8.ofNat n,UInt8.ofNat (n/256)]⟩]
structure LW(w:W8)(b:Nat)(j5 bv tv sv:V9)(es:List PE)(mb mt ms:List MB):Prop where
 blk:w.heap[b]?=P (Vc #[j5,bv,tv,sv] 69)
 row:Ow w (b+1) 112 3 j5 (Z es) (es.flatMap PE.cells)
 vy:∀p∈es,zt (b::(j5.ownBlock.toList++bv.ownBlock.toList++tv.ownBlock.toList++sv.ownBlock.toList)) w (jI p.s p.x p.y)
 bs:jH w (b+1) 115 5 jE bv mb
 ts:jH w (b+1) 117 9 jO tv mt
 ss:jH w (b+1) 120 185 iN sv ms
abbrev jL(b:Nat)(j5 bv tv sv:V9):List Nat:=b::(j5.ownBlock.toList++bv.ownBlock.toList++tv.ownBlock.toList++sv.ownBlock.toList)
variable {d e l:List MB}{f:List PE}{h i j k:V9}
def LW.lt(w:LW a b h k j i f e d l):b<F (X a):=(aM.1 w.blk).1
def LW.MX(c:LW a b h i j k f d e l):∀x∈jL b h i j k,b<=x/\x<F (X a):=by
 intro x w;rcases bS.1 w with rfl|w
 .exact⟨bD _,c.lt⟩
 simp only[aS]at w;rcases w with((w|w)|w)|w
 .have:=c.row.lt x (oU w);omega
 .have:=c.bs.row.lt x (oU w);omega
 .have:=c.ts.row.lt x (oU w);omega
 have:=c.ss.row.lt x (oU w);omega
def LW.ai(n:LW a b h i j k f d l e)(m:Below (F (X a)) a c):LW c b h i j k f d l e:=
 have g:=(ak.refl [] a).bC m
 ⟨(m.block b n.lt).trans n.blk,j3 n.row g oS,λp w=>(n.vy p w).step g oS (λw p=>.inl p),n.bs.ai m,n.ts.ai m,n.ss.ai m⟩
def LW.start(w b)(h:w.heap[b]?=P (Vc #[U G 0 0,U G 0 0,U G 0 0,U G 0 0] 69)):LW w b (U G 0 0) (U G 0 0) (U G 0 0) (U G 0 0) [] [] [] []:=
 ⟨h,dm _ _ _ _,oS,jH.nil _ _ _ _ _,jH.nil _ _ _ _ _,jH.nil _ _ _ _ _⟩
def LW.ad2{W t N}(o:LW a b h i k j f N d e)(K:Below (F (X a)) a c){p}(T:jI p.s p.x p.y c (F (X a)))(D:ak [] c W) (M:W.grownBy t h.ownBlock) {m}  (A:Ow t (b+1) 112 3 (U m (Z f+1) g) (Z f+1) (f.flatMap PE.cells++p.cells)) (E:(U m (Z f+1) g).ownBlock=h.ownBlock\/∀n,(U m (Z f+1) g).ownBlock=P n->F (X W)<=n):LW (Sc t (C b 0 G) (U m (Z f+1) g)) b (U m (Z f+1) g) i k j (f++[p]) N d e/\ak (jL b h i k j) a (Sc t (C b 0 G) (U m (Z f+1) g))/\t.heap[b]?=P (Vc #[h,i,k,j] 69):=by
 have r:=o.ai K;have u:ak (b::h.ownBlock.toList) c (Sc t (C b 0 G) (U m (Z f+1) g)):=by refine ak.setCell (p:=(C b 0 G)) ?_ (.inl bz) _;exact((D.mono oS).trans ((ak.jF M).mono λl z=>.inl (bG _ z)))
 have k5:ak h.ownBlock.toList c t:=(D.mono oS).trans (ak.jF M);have z:t.heap[b]?=P (Vc #[h,i,k,j] 69):=
  lC r.blk k5 (λx l=>.inr (gl r.row oD x l))
 have L:=D.size;have V:=K.size;have n:∀x∈b::h.ownBlock.toList,x∈jL b h i k j:=λx l=>by
  rcases bS.1 l with rfl|l
  .exact bz
  exact bG _ (by simp only[aS];exact .inl (.inl (.inl l)))
 have v:∀(Q:TypeId),69≠Q->112≠Q->∀x∈b::h.ownBlock.toList,er c Q x:=λQ s y x l=>by
  rcases bS.1 l with rfl|l
  .exact rX r.blk s
  exact gl r.row y x l
 have s:∀w∈jL b (U m (Z f+1) g) i k j,w∈jL b h i k j\/F (X c)<=w:=λw Q=>by
  rcases bS.1 Q with rfl|Q
  .exact .inl bz
  simp only[aS]at Q;have q:w∈i.ownBlock.toList\/w∈k.ownBlock.toList\/w∈j.ownBlock.toList->w∈jL b h i k j:=λB=>bG _ (by simp only[aS];rcases B with B|B|B<;>simp[B])
  rcases Q with((Q|Q)|Q)|Q
  .rcases E with y|y
   .rw[y]at Q;exact .inl (n w (bG _ Q))
   exact .inr (bf L (y w (oU Q)))
  .exact .inl (q (.inl Q))
  .exact .inl (q (.inr (.inl Q)))
  exact .inl (q (.inr (.inr Q)))
 refine⟨⟨?_,?_,λq B=>?_,r.bs.kept u (λx l=>.inr (v _ oD oD x l)) (λx l=>.inl (v _ oD oD x l)),r.ts.kept u (λx l=>.inr (v _ oD oD x l)) (λx l=>.inl (v _ oD oD x l)),r.ss.kept u (λx l=>.inr (v _ oD oD x l)) (λx l=>.inl (v _ oD oD x l))⟩,?_,z⟩
 .unfold World.setCell;simp only[zK,lM,z];rfl
 .rw[br,oc];have:=fh (a:=(C b 0 G)) A oS (U m (Z f+1) g);simpa using this
 .rcases aS.1 B with B|B
  .exact(r.vy q B).step u (λR q=>.inl (n R q)) s
  rw[bu.1 B];have S:zt (jL b h i k j) c (jI p.s p.x p.y):=⟨c,F (X a),ak.refl _ _,λw Q=>.inl (o.MX w Q).2,T⟩;exact S.step u (λR q=>.inl (n R q)) s
 exact((ak.refl _ a).bC K).step u (λx l=>.inl (n x l))
def LW.ad3{u o}(s:LW a b h i k j f d e l)(K:ak (b::j.ownBlock.toList) a c)(n:c.heap[b]?=P (Vc #[h,i,k,u] 69))(A:jH c (b+1) 120 185 iN u o)(t:∀g∈u.ownBlock.toList,g∈j.ownBlock.toList\/F (X a)<=g):LW c b h i k u f d e o/\ak (jL b h i k j) a c:=by
 have m:∀x∈b::j.ownBlock.toList,x∈jL b h i k j:=λx g=>by
  rcases bS.1 g with rfl|g
  .exact bz
  exact bG _ (by simp only[aS];exact .inr g)
 have r:∀(y:TypeId),69≠y->120≠y->∀x∈b::j.ownBlock.toList,er a y x:=λy q w x g=>by
  rcases bS.1 g with rfl|g
  .exact rX s.blk q
  exact gl s.ss.row w x g
 have q:∀w∈jL b h i k u,w∈jL b h i k j\/F (X a)<=w:=λw y=>by
  rcases bS.1 y with rfl|y
  .exact .inl bz
  simp only[aS]at y;have p:w∈h.ownBlock.toList\/w∈i.ownBlock.toList\/w∈k.ownBlock.toList->w∈jL b h i k j:=λv=>bG _ (by simp only[aS];rcases v with v|v|v<;>simp[v])
  rcases y with((y|y)|y)|y
  .exact .inl (p (.inl y))
  .exact .inl (p (.inr (.inl y)))
  .exact .inl (p (.inr (.inr y)))
  exact(t w y).imp (λz=>m w (bG _ z)) id
 exact⟨⟨n,j3 s.row K (λx g=>.inr (r _ oD oD x g)),λp v=>(s.vy p v).step K (λv p=>.inl (m v p)) q,s.bs.kept K (λx g=>.inr (r _ oD oD x g)) (λx g=>.inl (r _ oD oD x g)),s.ts.kept K (λx g=>.inr (r _ oD oD x g)) (λx g=>.inl (r _ oD oD x g)),A⟩,K.mono λx g=>.inl (m x g)⟩
section
open Go.RowKit Go.Maps
def U9{α:Type}[Inhabited α](enc:α->V8)(hk:∀x,(enc x).length=3):∀(a:List α)(t:Nat),t<Z a*3->(a.flatMap enc)[t]?=P ((enc (a.toArray[t/3]!))[t%3]!)
 | [],t,h=>by simp at h
 |x::r,t,h=>by
  rw[lY]
  by_cases a:t<3
  .rw[wL (by rw[hk];exact a),Nat.div_eq_of_lt a,Nat.mod_eq_of_lt a];have:t<(enc x).length:=by rw[hk];exact a
   simp[this]
  have d:=U9 enc hk r (t-3) (by simp at h;omega);rw[ug (by rw[hk];omega),hk,d];have x:t/3=(t-3)/3+1:=O
  have b:t%3=(t-3)%3:=O
  have c:(t-3)/3<Z r:=by simp at h;omega
  rw[x,b];simp[c]
def Nh{α:Type}[Inhabited α](enc:α->V8)(hk:∀x,(enc x).length=3)(xs:List α):Sort.flatK enc 3 xs.toArray=(xs.flatMap enc).toArray:=by
 have d:∀l:List α,(l.flatMap enc).length=Z l*3:=by
  intro l;induction l with
  |nil=>rfl
  |cons x r t=>rw[lY,br,t,hk,ff];omega
 refine GF (by simp[d]) λt r b=>?_
 have b:t<Z xs*3:=by simpa using r
 have c:=U9 enc hk xs t b;have a:=Sort.get_flatK enc 3 xs.toArray t (oU b);rw[Ha _ t r]at a;rw[a];have r:(xs.flatMap enc)[t]?=P (xs.flatMap enc).toArray[t]:=oS
 rw[c]at r;exact cI r
section
variable{w:W8} {g n:Nat} {i:Array Obj} {f:Array V9} {e:TypeId}
def agX{a:B8->V8}(l:∀x,(a x).length=3){b}(d:w.heap[g]?=P (Vc f e))(k:f.toList.take (Z b*3)=b.flatMap a):Sort.HoldsK a 3 w g 0 b.toArray:=by
 unfold Sort.HoldsK;rw[Nh a l];intro j h;have x:j<(b.flatMap a).length:=by simpa using h
 refine⟨?_,by simp[World.frozen?,d]⟩;have m:(b.flatMap a).length<=Z b*3:=by rw[<-k];simp;omega
 have c:(f.toList.take (Z b*3))[j]?=(b.flatMap a)[j]?:=by rw[k]
 rw[GO O]at c;simp only[World.cell?,d,lZ];simp only[G4,qi,pG];rw[<-DF,c,dr x];rw[Ha _ j h];rfl
def agv(d)(a:w.heap[g]?=P (Vc f e)):(Sort.grow (Sort.putRow id (Sort.ahead w n) g 0 d) i).heap[g]?=P (Vc (Sort.putCells id 0 d f) e):=by have b:g<F (X w):=(aM.1 a).1;rw[Sort.heap_grow_old _ _ (oU b)];simp[Sort.putRow,Sort.mapBlock,Sort.ahead,zK,a,Sort.onCells]
def ag9(d):w.grownBy (Sort.grow (Sort.putRow id (Sort.ahead w n) g 0 d) i) (P g):=by
 refine⟨rfl,rfl,rfl,oS,λk b a=>?_⟩;rw[Sort.heap_grow_old _ _ (oU b)];have:g≠k:=λe=>a (by rw[e])
 simp[Sort.putRow,Sort.mapBlock,Sort.ahead,zK,this]
def an5(a)(h:Z a<=f.size):(Sort.putCells id 0 a.toArray f).toList.take (Z a)=a:=by
 apply GN;intro j
 by_cases b:j<Z a
 .rw[GO b,DF];simp[Sort.putCells,b,show j<f.size by omega]
 rw[Tb O,od O]
def ajP{c b a}(l:∀x,(a x).length=3){j h:List B8}(p:Z h=Z j)(d:c<=g)(o:w.heap[g]?=P (Vc f e))(q:Z j<=b) (m:b<=maxLen) (k:f.size=b*3):(sortWorldK a 3 w g 0 n h.toArray i).ownsRow c e 3 (U (P (C g 0 G)) (Z j) b) (Z h) (h.flatMap a):=by
 have x:(h.flatMap a).length=Z h*3:=by have:=gQ Array.size (Nh a l h);simpa using this.symm
 unfold sortWorldK Sort.putRowK;rw[Nh a l];exact⟨x,.inr ⟨g,b,_,by rw[p],d,agv _ o,O,m,by simp[Sort.putCells,k],by rw[<-x];exact an5 _ (by rw[x,k];omega)⟩⟩
end
def tU(xs:List B8):List B8:=xs.mergeSort λx y=>!(ltOf mY) y x
def QI(a S x):(mC a S x).length=3:=rfl
def amq(wr b d S l k a)(h:Ow wr b 185 3 (U l (Z a) k) (Z a) (a.flatMap (mC d S)))(D:Z a<=1000000000):Calls prog 194 #[U l (Z a) k,.func (.func 195) #[] #[]] wr λe o=>e=Vr (Vt #[])/\Ow o b 185 3 (U l (Z a) k) (tU a).length ((tU a).flatMap (mC d S))/\wr.grownBy o (U l (Z a) k).ownBlock:=by
 rcases h.2 with⟨u,z⟩|⟨g,_,_,u,A,r,t,p,q,B⟩
 .have j:=zO.1 z;subst j;injection u with j m x
  subst j x;refine Bs (AnyF.slices_SortFunc_none sortStr G 0 _ wr) ?_;rintro e o⟨rfl,rfl⟩;exact⟨rfl,by simpa[tU]using dm _ _ _ _,⟨rfl,rfl,rfl,bD _,λ_ _ _=>rfl⟩⟩
 injection u with j m x
 subst j x;have v:∀x w,(callFunc 195 x).run prog w=.ok (.enter 195 x) w:=enters_of func195 oK rfl;have s:g<F (X wr):=(aM.1 r).1;have c:=AnyQ.slices_SortFunc_total sortStr 3 isAgg185 sizeOf185 (mC d S) (QI d S) (aan d S) mY QQ 195 #[] g 0 k a.toArray wr v (λ_ _ _ _ x y=>aeB x y _ _ _ _ _) (agX (QI d S) r B) s oT (λx y j m=>by rw[rV]at j m;exact Fo j m);have y:a.toArray.size=Z a:=oS
 rw[y]at c;refine Bs c ?_;rintro e o⟨rfl,_,_,rfl⟩;have x:(tU a).length=Z a:=by simp[tU]
 exact⟨rfl,ajP (QI d S) x A r t p q,ag9 _⟩
def amm(a k):k∈tU a↔k∈a:=List.mem_mergeSort
def amn(j)(h:j.Nodup):(tU j).Pairwise λx y=>fc x y=true:=by
 have l:(tU j).Pairwise λx y=>(!(ltOf mY) y x)=true:=by
  refine L0 (λa b c d k=>?_) (λa b=>?_) j
  .simp only[rV,zL]at*;have:=QQ.ntrans c b a (by rw[rV];exact k) (by rw[rV];exact d)
   rwa [rV]at this
  simp only[rV]
  cases d:fc a b with
  |false=>simp
  |true=>
   cases k:fc b a with
   |false=>simp
   |true=>have:=CI d k;rw[Ay]at this;cases this
 have b:(tU j).Nodup:=(LY j _).nodup_iff.2 h;refine(l.and b).imp λ{x y} a=>?_
 obtain⟨d,k⟩:=a;simp only[rV,zL]at d
 cases a:fc x y with
 |true=>rfl
 |false=>exact absurd (Fo a d) k
end
def zS.post{w b n a S c g cA wr i}(h:zS w b n a S c g cA wr)(l:∀k,(bq a S k).isSome=Bt->k∈c)(f:Ow i (F (X w)+1) 185 3 g (tU c).length ((tU c).flatMap (mC a S))) (d:wr.grownBy i g.ownBlock):Tf w a S (Vr g) i:=by
 have q:=h.ai.size;have p:=d.size;have m:∀k,(bq a S k).isSome=(bE a k).isSome:=λk=>by unfold bq;cases bE a k<;>rfl
 refine⟨g,tU c,rfl,f,amn c h.nd,λk=>?_,⟨d.os.trans h.ai.os,d.tape.trans h.ai.tape,d.output.trans h.ai.output,O,λj o=>?_⟩⟩
 .rw[amm,<-m];exact⟨λe=>h.sm k e,λe=>l k e⟩
 rw[d.block j O (λe=>by have:=JD h.row e.symm;omega)];exact h.ai.block j o
def ahQ(w b n a S)(h:dt prog 9 w b n (bq a S))(hn:n<=1000000000):Calls prog 136 #[.map (P b)] w (Tf w a S):=by
 obtain⟨V,R,B,D,E⟩:=info_parts OG;have p:=h.lt;go_in;go_wp2_with(first|(at_range;refine aby _ rfl _ 73 rfl 9 185 underlying9 underlying73 b n (bq a S) rfl h ?_;intro W c g i e s)|go_in);go_frame;have u:zS w b n a S [] (U G 0 0) c W:=⟨g.XO (λk=>oS),dm _ _ _ _,List.nodup_nil,oS,by simpa using i,⟨e.os,e.tape,e.output,O,λj v=>e.block j v oS⟩⟩;clear g i e s h
 go_loopg [3] c (λh e wr=>∃s:List B8,zS w b n a S s e h wr)
 exact⟨[],u⟩
 case round=>
  clear u;obtain⟨s,j⟩:=hrel;obtain⟨u,v,rfl⟩:=aF j.row;have i:=j.rg;have M:=j.len;have h:=j.row;have Q:=j.rg.lt;have t:=H j;clear j;go_wp2_with(first|(at_next;refine abx _ rfl _ rfl 9 underlying9 b (F (X w)) n (bq a S) _ gk (λk=>Va #[Y k,I J (S k),I J ((bE a k).getD 0:Nat)]) (aam a S) rfl i ?_ ?_)|go_in)
  .intro e;have f:=H e;have q:=amq wr (F (X w)+1) a S u v s h O;clear e i h;go_wp2_with fail;refine q.mono ?_;rintro e x⟨rfl,j,d⟩;have o:=t.post f j d;have r:=H o;clear q j d t f o;go_wp2;go_ret;exact r
  intro k K o r q x d z f A y;have m:=H d;have l:=H f;have N:F (X w)<F (X K):=O
  have L:=H (And.intro r q)
  have j:=h.kept f (by
   rcases T:(U u (Z s) v).ownBlock with _|g
   .exact .inl rfl
   exact .inr (λe=>by injection e with e;have:=JD h T;omega))
  clear i d f x r q h A;go_wp2_with(at_builtin;refine ka _ rfl _ _ 118 rfl (F (X w)+1) 185 V _ 3 32 underlying118 R B D E rfl oD _ _ _ rfl ((j.alloc _).alloc _) (C (F (X K)+1) 0 G) 1 1 (mC a S k) rfl rfl (amu K _ a S k) (aan _ _ _) oM O oT ?_);intro A r h f g;clear g;obtain⟨_,_,rfl⟩:=aF h;have g:=t.append p L m z l h f;have q:=H g;clear h f g t m l L j y;go_wp2;go_roundg o;exact⟨_,q⟩;omega
def xE(w b v a n c)(d:v=U a n c)(g:Ce w (C b 0 G)=P v):Calls prog 36 #[Vp (P (C b 0 G))] w λe f=>e=Vr (U a n c)/\f=w:=by subst d;go_in;go_wp2;go_ret;exact⟨rfl,rfl⟩
def akq(w d b g)(h:oi w d b g)(f:(nr (g.map (·.R))).length<=1000000000):Calls prog 28 #[Vp (P (C b 0 G))] w λe a=>e=Vr (Y ⟨(nr (g.map (·.R))).toArray⟩)/\Below (F (X w)) w a:=by obtain⟨a,c,i,_,j⟩:=h;obtain⟨l,_⟩:=aj i 0;go_in;go_wp2_with fail;refine(xE w b _ a (Z g) c rfl l).mono ?_;rintro e k⟨rfl,rfl⟩;go_wp2_with fail;refine(aoh _ d a c g j f).mono ?_;rintro e k⟨rfl,h⟩;go_wp2;go_ret;exact⟨rfl,h⟩
def akE(w f b d g)(h:oi w f b d)(D:Z d<=30)(p:∀r∈d,Z r.bs<=3)(z:∀r∈d,r.R.pd.size<=800)(u:∀r∈d,∀x∈r.bs,x.1.pd.size<=800)(o:mE ((d.map (·.R)).flatMap jl) [])(B:iU ((d.map (·.R)).flatMap jl) []=g)(A:Z g<=1000)(t:∀r∈d,(∃n,bE g r.R.pd=P n)/\∀x∈r.bs,∃n,bE g x.1.pd=P n)(m)(q:ll (d.map (·.R)) m)(s:∀k,m k<=1000):Calls prog 84 #[Vp (P (C b 0 G))] w λe a=>∃S v r,e=Vr v/\ll (d.map (·.R)) S/\og (d.map (·.R)) S/\Ow a (F (X w)) 185 3 v (Z r) (r.flatMap (mC g S))/\r.Pairwise (λx y=>fc x y=Bt)/\(∀k,k∈r↔(bE g k).isSome=Bt)/\Below (F (X w)) w a:=by obtain⟨a,c,M,_,R⟩:=h;obtain⟨V,_⟩:=aj M 0;go_in;go_wp2_with fail;refine(xE w b _ a (Z d) c rfl V).mono ?_;rintro e T⟨rfl,rfl⟩;go_wp2_with fail;refine(Jw _ f a c d g R D p z u o B A t m q s).mono ?_;rintro e K⟨rfl,E,x,S,n,N,Q,l,i⟩;go_wp2_with fail;refine(ahQ K _ n g S N Q).mono ?_;rintro e W⟨v,r,rfl,h,j,y,k⟩;obtain⟨_,_,rfl⟩:=aF h;have L:=H (And.intro (aX h (show(F (X T))<=F (X K)+1 by omega)) (And.intro j (And.intro y (x.trans (k.mono (DQ E))))));clear h j y k x;go_wp2;go_ret;exact⟨S,_,r,rfl,l,i,L⟩
def tu(s:B8)(ts:List (Bool×B8)):Prop:=Z ts<=4/\∀t∈ts,t.2.size<=s.size
def akI(s f):∀{p:Nat} {l:List (Bool×B8)} {b:Nat->Nat},(∀t∈l,t.2.size<=s.size)->∀t∈(dT s f p l b).2.2.1,t.2.size<=s.size:=by
 induction f with
 |zero=>intro p l b h;simpa[dT]using h
 |succ f d=>
  intro p l b h;have c:∀t∈l++[(decide ((aE s p).1=3),hU s p)],t.2.size<=s.size:=λt a=>by
   rcases aS.1 a with a|a
   .exact h t a
   rw[bu.1 a];exact JR s p
  rw[dT]
  split
  .split
   .exact d c
   exact c
  exact h
variable {a:B8}{b:List (Bool×B8)}{c:Nat}
def Zx{q j k}(h:ik a c=.yes q j b k):tu a b:=by
 refine⟨(FD h).2,?_⟩;unfold ik at h
 by_cases e:(aE a c).1=2
 .rw[aD e]at h
  by_cases p:(aE a (aE a c).2.2).1=5
  .rw[aD p]at h
   by_cases d:(dT a 4 (aE a (aE a c).2.2).2.2 [] (λ_=>0)).1=Bt
   .rw[aD d]at h;injection h with f g s i
    subst s;exact akI a 4 oS
   rw[aB d]at h;cases h
  rw[aB p]at h;injection h with f g s i
  subst s;simp
 rw[aB e]at h;cases h
def ak6(s e f):∀{p:Nat} {l:List dd} {d:List bW},(∀x∈l,tu s x.ts)->∀x∈(jR s e f p l d).2.2.1,tu s x.ts:=by
 induction f with
 |zero=>intro p l d c;exact c
 |succ f h=>
  intro p l d c;rw[jR]
  cases g:ik s (bR s p 4) with
  |no q=>exact c
  |yes q j k m=>
   have i:=Zx g;have b:∀x∈l++[qM s p j k],tu s x.ts:=λx a=>by
    rcases aS.1 a with a|a
    .exact c x a
    simp at a;subst a;exact i
   simp only
   split
   .exact h b
   exact b
def akw(s a p){b}:tu s (iC s a p b).2.2.1.ts/\∀x∈(iC s a p b).2.2.1.body,tu s x.ts:=by
 unfold iC
 cases c:ik s p with
 |no q=>exact⟨⟨oS,oS⟩,oS⟩
 |yes q d f e=>
  have x:=Zx c;simp only
  split
  .exact⟨x,oS⟩
  split
  .exact⟨x,ak6 s a 3 oS⟩
  exact⟨x,oS⟩
def akB(s f):∀{p:Nat} {b:List iu} {c:List bW},(∀R∈b,tu s R.ts/\∀x∈R.body,tu s x.ts)->∀R∈(mA s f p b c).2.2.1,tu s R.ts/\∀x∈R.body,tu s x.ts:=by
 induction f with
 |zero=>intro p b c a;exact a
 |succ f d=>
  intro p b c a;rw[mA]
  split
  .exact a
  split
  .exact a
  split
  .refine d (λR x=>?_);rcases aS.1 x with x|x
   .exact a R x
   simp at x;subst x;exact akw s _ _
  exact a
def aml(s):∀R∈(dL s).2.2.1,tu s R.ts/\∀x∈R.body,tu s x.ts:=akB s 31 oS
def aaR :∀(y:List (Bool×B8))(i:Nat),(∀t∈y,t.2.size<=c)->(gH y i).length<=(c+1)*Z y
 | [],_,_=>aI _
 |t::r,i,h=>by
  have b:=aaR r (i+1) λy a=>h y (bG _ a)
  have a:t.2.data.toList.length<=c:=by have:=h t bz;simpa using this
  rw[gH,ff,br,ff,Nat.mul_add,yo];omega
def TO(c:a.size<=800)(e:Z b<=4)(d:∀t∈b,t.2.size<=800):(gW a b).length<=4005:=by
 have:=aaR b 0 d;have f:Z a.data.toList<=800:=by simpa using c
 rw[gW,br,br];have t:(801:Nat)*Z b<=3204:=O
 split<;>simp_all<;>omega
def Yr:∀(y:List dd)(i:Nat),(∀l∈y,l.pd.size<=800/\(Z l.ts)<=4/\∀t∈l.ts,t.2.size<=800)->(mO y i).length<=4013*Z y
 | [],_,_=>aI _
 |L::r,i,h=>by
  have t:=Yr r (i+1) λy a=>h y (bG _ a)
  obtain⟨a,b,c⟩:=h L bz;have y:=TO a b c;have l:(sK L).length<=4009:=by rw[sK,br];split<;>simp<;>omega
  have d:(if i=0 then [32,58,45,32] else [44,32]:List UInt8).length<=4:=by split<;>simp
  rw[mO,br,br,ff];omega
def ZO(h:(eK a).1=Bt):(nr (dL a).2.2.1).length<=1000000000:=by
 have e:=pL h;have j:a.size<=800:=by
  unfold eK at h
  by_cases g:800<a.size
  .rw[aD g]at h;cases h
  omega
 have g:=aml a
 have:=Nj sQ 20000 (dL a).2.2.1 (λR d=>by
  obtain⟨⟨s,b⟩,c⟩:=g R d;have k:=TO (e.pd R d) s (λt i=>bf (b t i) j);have m:=Yr R.body 0 (λl f=>⟨e.CL R d l f,(c l f).1,λt i=>bf ((c l f).2 t i) j⟩);have i:=e.body R d;have d:4013*Z R.body<=12039:=O
  rw[sQ,br,br]
  simp;omega)
 have s:=e.len;unfold nr;omega
def qv(w:W8):Ending->W8->Prop:=λe w'=>e=Vr (Vb Bt)/\Below (F (X w)) w w'
def MB.agg(m:MB):V9:=Va #[m.l,m.one,m.Dd,m.Dc,I J (m.mark:Nat)]
variable {a:W8}
def pH.shape{e v m}(h:pH a e v m):∃w b c d n f g i j,n<=1000/\m.l=U w n f/\m.one=U b (n+1) g/\m.Dd=U c (n+2) i/\m.Dc=U d (n+64) j:=by obtain⟨n,u,q,r,s,t⟩:=h.aK;obtain⟨w,f,k⟩:=aF q;obtain⟨b,g,l⟩:=aF r;obtain⟨c,i,o⟩:=aF s;obtain⟨d,j,p⟩:=aF t;exact⟨w,b,c,d,n,f,g,i,j,u,k,l,o,p⟩
def jH.aC{c t e s v b}(h:jH a c t e s v b){k}(q:k<Z b):∃g w,v=U (P (C g 0 G)) (Z b) w/\g<F (X a)/\(Z b)<=w/\w<=maxLen/\Ce a (C g (k*5) G)=P b[k].l/\Ce a (C g (k*5+1) G)=P b[k].one/\Ce a (C g (k*5+2) G)=P b[k].Dd/\Ce a (C g (k*5+3) G)=P b[k].Dc/\Ce a (C g (k*5+4) G)=P (I J (b[k].mark:Nat)):=by obtain⟨g,w,r,-,i,j,f,d⟩:=gu (f:=MB.cells) (λ_=>rfl) h.row k q;have l:=d 0 oS;have m:=d 1 oS;have n:=d 2 oS;have o:=d 3 oS;have p:=d 4 oS;simp only[MB.cells,iy,aT,bx]at l m n o p;exact⟨g,w,r,i,j,f,l,m,n,o,p⟩
def ai5(w b j5 bv tv sv t v u fB fT fS)(a:w.heap[b]?=P (Vc #[j5,bv,tv,sv] 69))(N:jH w (b+1) 115 5 fB bv t)(d:jH w (b+1) 117 9 fT tv v)(k:jH w (b+1) 120 185 fS sv u)(qF:Z t<=100000000) (mM:Z v<=100000000) (N7:Z u<=100000000)(f:∀m∈t,∀i,pH i 5 (fB m.mark) m->Calls prog 52 #[m.agg] i (qv i)) (K:∀m∈v,∀i,pH i 9 (fT m.mark) m->Calls prog 53 #[m.agg] i (qv i)) (L:∀m∈u,∀i,pH i 185 (fS m.mark) m->Calls prog 54 #[m.agg] i (qv i)):Calls prog 33 #[Vp (P (C b 1 G))] w (qv w):=by
 obtain⟨_,_,rfl⟩:=aF N.row;obtain⟨_,_,rfl⟩:=aF d.row;obtain⟨_,_,rfl⟩:=aF k.row;have B:=H a;have E:=(aM.1 a).1;have D:=H N;have HT:=H d;have HS:=H k;have M:=H f;have CT:=H K;have CS:=H L;clear N d k f K L a;go_in;go_wp2
 go_loopg [3,4] (Z t) (λN ok i wr=>∃k:Nat,k<=Z t/\N=Z t-k/\ok=Vb Bt/\i=I J k/\Below (F (X w)) w wr)
 exact⟨0,aI _,rfl,rfl,rfl,aZ _ _⟩
 case round=>
  obtain⟨k,_,_,rfl,rfl,m⟩:=hrel;have a:=(m.block b E).trans B;have d:=m.size;obtain⟨L,f⟩:=aj a 1
  by_cases K:k<Z t
  .as_aux_lemma=>
   obtain⟨g,Q,hv,V,W,T,x,y,z,A,p4⟩:=(D.ai m).aC K;have s:=((D.ai m).aK t[k] (aN K));have h:=ag M t[k] (aN K) wr s;obtain⟨a1,a2,a3,a4,n,c1,c2,c3,c4,hn,l,o,p,q⟩:=s.shape;unfold MB.agg at h;rw[l,o,p,q]at h;rw[l]at x;rw[o]at y;rw[p]at z;rw[q]at A;injection hv with R h2 S
   subst R S;clear s l o p q a;generalize t[k].mark=YU at*;go_wp2_with fail;refine h.mono ?_;rintro e w1⟨rfl,c⟩;have j:=H (m.trans (c.mono d));clear c m h x y z A p4 L f;go_wp2;go_roundg(Z t-(k+1));exact⟨k+1,O,rfl,rfl,oN,j⟩;omega
  clear D M a;have D:=H m;clear m;go_wp2
  go_loopg [3,6] (Z v) (λN ok i wr=>∃k:Nat,k<=Z v/\N=Z v-k/\ok=Vb Bt/\i=I J k/\Below (F (X w)) w wr)
  exact⟨0,aI _,rfl,rfl,rfl,D⟩
  case round=>
   clear D L f d;obtain⟨M,_,_,rfl,rfl,m⟩:=hrel;have a:=(m.block b E).trans B;have d:=m.size;obtain⟨L,f⟩:=aj a 2
   by_cases r:M<Z v
   .as_aux_lemma=>
    obtain⟨g,Q,hv,V,W,T,x,y,z,A,p4⟩:=(HT.ai m).aC r;have s:=((HT.ai m).aK v[M] (aN r));have h:=ag CT v[M] (aN r) wr s;obtain⟨a1,a2,a3,a4,n,c1,c2,c3,c4,hn,l,o,p,q⟩:=s.shape;unfold MB.agg at h;rw[l,o,p,q]at h;rw[l]at x;rw[o]at y;rw[p]at z;rw[q]at A;injection hv with R h2 S
    subst R S;clear s l o p q a;generalize v[M].mark=YU at*;go_wp2_with fail;refine h.mono ?_;rintro e w1⟨rfl,c⟩;have j:=H (m.trans (c.mono d));clear c m h x y z A p4 L f;go_wp2;go_roundg(Z v-(M+1));exact⟨M+1,O,rfl,rfl,oN,j⟩;omega
   clear HT CT a;have D:=H m;clear m;go_wp2
   go_loopg [3,8] (Z u) (λN ok i wr=>∃k:Nat,k<=Z u/\N=Z u-k/\ok=Vb Bt/\i=I J k/\Below (F (X w)) w wr)
   exact⟨0,aI _,rfl,rfl,rfl,D⟩
   case round=>
    clear D L f d;obtain⟨N,_,_,rfl,rfl,m⟩:=hrel;have a:=(m.block b E).trans B;have d:=m.size;obtain⟨L,f⟩:=aj a 3
    by_cases i:N<Z u
    .as_aux_lemma=>
     obtain⟨g,Q,hv,V,W,T,x,y,z,A,p4⟩:=(HS.ai m).aC i;have s:=((HS.ai m).aK u[N] (aN i));have h:=ag CS u[N] (aN i) wr s;obtain⟨a1,a2,a3,a4,n,c1,c2,c3,c4,hn,l,o,p,q⟩:=s.shape;unfold MB.agg at h;rw[l,o,p,q]at h;rw[l]at x;rw[o]at y;rw[p]at z;rw[q]at A;injection hv with R h2 S
     subst R S;clear s l o p q a;generalize u[N].mark=YU at*;go_wp2_with fail;refine h.mono ?_;rintro e w1⟨rfl,c⟩;have j:=H (m.trans (c.mono d));clear c m h x y z A p4 L f;go_wp2;go_roundg(Z u-(N+1));exact⟨N+1,O,rfl,rfl,oN,j⟩;omega
    clear a;have D:=H m;clear m;go_wp2;go_ret;exact⟨rfl,D⟩
end
section
open Go.RowKit
structure qq where
 kd:Int
 a:Int
 b:Int
 s:B8
 t:B8
 u:B8
 aC:O8
 nt:Nat
 ct:Nat
structure BS(w:W8)(sa:O8)(len:Nat)(a:Nat->qq):Prop where
 el:∀i,i<len->∃g off,sa=P (C g off G)/\g<F (X w)/\Ce w (C g (off+i*7) G)=P (I J (a i).kd)/\Ce w (C g (off+i*7+1) G)=P (I J (a i).a)/\Ce w (C g (off+i*7+2) G)=P (I J (a i).b)/\Ce w (C g (off+i*7+3) G)=P (Y (a i).s)/\Ce w (C g (off+i*7+4) G)=P (Y (a i).t)/\Ce w (C g (off+i*7+5) G)=P (Y (a i).u)/\Ce w (C g (off+i*7+6) G)=P (U (a i).aC (a i).nt (a i).ct)/\(a i).s.size<=maxLen
def BS.ai{w f e b a}(h:BS w e b a)(d:Below (F (X w)) w f):BS f e b a:=
 ⟨λi m=>by
  obtain⟨g,c,j,k,_,_,_,_,_,_,_,l⟩:=h.el i m;have m:=d.size;refine⟨g,c,j,O,?_,?_,?_,?_,?_,?_,?_,l⟩
  all_goals(rw[d.cell (oU k)];assumption)⟩
def Ik:B8:=⟨#[101,100,103,101,40,97,44,98,41,46,32,101,100,103,101,40,98,44,99,41,46,32,112,97,116,104,40,88,44,89,41,32,58,45,32,101,100,103,101,40,88,44,89,41,46,32,112,97,116,104,40,88,44,90,41,32,58,45,32,101,100,103,101,40,88,44,89,41,44,32,112,97,116,104,40,89,44,90,41,46,32,102,97,114,40,88,41,32,58,45,32,112,97,116,104,40,97,44,88,41,44,32,110,111,116,32,101,100,103,101,40,97,44,88,41,46]⟩
def afy:(eK Ik).1=true:=by decide +kernel
def afz:Ik.size<=maxLen:=by decide +kernel
open Go.Maps
def Z5{w b e x v n}(h:Ow w b e 1 v n (gq [x] n))(k)(m:k<n):∃g a,v=U (P (C g 0 G)) n a/\g<F (X w)/\n<=a/\a<=maxLen/\Ce w (C g k G)=P x:=by
 have j:Ow w b e 1 v (List.replicate n ()).length ((List.replicate n ()).flatMap λ_=>[x]):=by rw[GU];exact h
 obtain⟨g,a,i,-,f,c,d,l⟩:=gu (f:=λ_:Unit=>[x]) (λ_=>rfl) j k (oU m);rw[GU]at i c;refine⟨g,a,i,f,c,d,?_⟩;have:=l 0 oS;simpa using this
def Ht(w b d a n c)(h:Ow w b 5 1 (U a n c) n (gq (jE d) n))(m:n<=100000)(g:d<=1000000000000):Calls prog 94 #[U a n c,I J d] w λe i=>e=Vr (Vb Bt)/\i=w:=by
 have e:=H h;clear h;go_in;go_wp2
 go_loopg [5] n (λh i wr=>∃k:Nat,k<=n/\h=n-k/\i=I J k/\wr=w)
 exact⟨0,aI _,rfl,rfl,rfl⟩
 case round=>
  obtain⟨k,_,_,rfl,rfl⟩:=hrel
  by_cases i:k<n
  .obtain⟨_,_,j,_,_,_,_⟩:=Z5 e k i;injection j with h l f
   subst h f;go_wp2;go_roundg(n-(k+1));exact⟨k+1,O,rfl,oN,rfl⟩;omega
  go_wp2;go_ret;exact⟨rfl,rfl⟩
def amL(w a b j k l m d f g h n o p q)(v:Ow w a 5 1 (U j d n) d (gq (jE b) d))(x:Ow w a 5 1 (U k f o) f (gq (jE b) f))(y:Ow w a 5 1 (U l g p) g (gq (jE b) g))(z:Ow w a 5 1 (U m h q) h (gq (jE b) h))(r:d<=100000)(s:f<=100000)(t:g<=100000)(u:h<=100000)(c:b<=1000000000000):Calls prog 52 #[Va #[U j d n,U k f o,U l g p,U m h q,I J b]] w λe i=>e=Vr (Vb Bt)/\Below (F (X w)) w i:=by have E:=(aZ (F (X w)) w).alloc L9 (Vc #[U j d n,U k f o,U l g p,U m h q,I J b] 115);have H1:=H v;have A:=H x;have B:=H y;have D:=H z;clear v x y z;go_in;go_wp2_with fail;refine(Ht _ a b j d n (H1.alloc _) r c).mono ?_;rintro e i⟨rfl,rfl⟩;go_wp2_with fail;refine(Ht _ a b k f o (A.alloc _) s c).mono ?_;rintro e i⟨rfl,rfl⟩;go_wp2_with fail;refine(Ht _ a b l g p (B.alloc _) t c).mono ?_;rintro e i⟨rfl,rfl⟩;go_wp2_with fail;refine(Ht _ a b m h q (D.alloc _) u c).mono ?_;rintro e i⟨rfl,rfl⟩;go_wp2;go_ret;exact⟨rfl,E⟩
def sN(n:Nat):B8:=⟨#[35,UInt8.ofNat n,UInt8.ofNat (n/256)]⟩
def Zm(a:Nat):strOfNums [35,(a:Int)%256,(a:Int)/256%256]=sN a:=by
 have b:UInt8.ofNat ((a:Int)%256).toNat=UInt8.ofNat a:=by
  have:((a:Int)%256).toNat=a%256:=O
  rw[this];apply Mb.1;simp
 have c:UInt8.ofNat ((a:Int)/256%256).toNat=UInt8.ofNat (a/256):=by
  have:((a:Int)/256%256).toNat=a/256%256:=O
  rw[this];apply Mb.1;simp
 simp only[strOfNums,ir,vc,b,c];rfl
def aeI(wr)(a:Nat):(convert 47 9 (U (P (C (F (X wr)) 0 G)) 3 3)).run prog ((Al wr (Vc #[I .u8 35,I .u8 ((a:Int)%256),I .u8 ((a:Int)/256%256)] 5)).drew)=.ok (Y (sN a)) ((Al wr (Vc #[I .u8 35,I .u8 ((a:Int)%256),I .u8 ((a:Int)/256%256)] 5)).drew):=by
 rw[<-Zm];refine run_convert_bytes_arg _ 47 5 underlying47 underlying5 _ 0 3 3 [35,(a:Int)%256,(a:Int)/256%256] rfl (λi b=>?_) _ underlying9
 show((Al wr _).drew).cell? (C (F (X wr)) (0+i) G)=_
 rw[lZ,World.cell?_drew,World.cell?_alloc_at _ _ _ _ rfl]
 match i,b with
 | 0,_=>rfl
 | 1,_=>rfl
 | 2,_=>rfl
def Pe(n):jO n=[Y (sN n)]:=rfl
def Hv(w b d a n c)(h:Ow w b 9 1 (U a n c) n (gq (jO d) n))(o:n<=100000)(_:d<=1000000000000):Calls prog 95 #[U a n c,I J d] w (qv w):=by
 rw[Pe]at h;have f:=H h;clear h;go_in;go_wp2
 go_loopg [5] n (λh i wr=>∃k:Nat,k<=n/\h=n-k/\i=I J k/\Below (F (X w)) w wr)
 exact⟨0,aI _,rfl,rfl,aZ _ _⟩
 case round=>
  obtain⟨k,_,_,rfl,i⟩:=hrel
  by_cases h:k<n
  .obtain⟨g,_,l,_,_,_,_⟩:=Z5 (aQ f i (λg e=>(f.lt g e).2)) k h;injection l with e m j
   subst e j;have e:=i.size;have j:=aeI wr d;go_wp2
   go_region
   all_goals
    go_wp2;go_roundg(n-(k+1));exact⟨k+1,O,rfl,oN,(i.alloc e _).drew⟩;omega
  go_wp2;go_ret;exact⟨rfl,i⟩
def amN(w a b i j k l c d f h m n o p)(e:Ow w a 9 1 (U i c m) c (gq (jO b) c))(s:Ow w a 9 1 (U j d n) d (gq (jO b) d))(q:Ow w a 9 1 (U k f o) f (gq (jO b) f))(g:Ow w a 9 1 (U l h p) h (gq (jO b) h))(D:c<=100000)(E:d<=100000)(K:f<=100000)(L:h<=100000)(u:b<=1000000000000):Calls prog 53 #[Va #[U i c m,U j d n,U k f o,U l h p,I J b]] w (qv w):=by
 have V:=(aZ (F (X w)) w).alloc L9 (Vc #[U i c m,U j d n,U k f o,U l h p,I J b] 117);have W:(Al w (Vc #[U i c m,U j d n,U k f o,U l h p,I J b] 117)).heap[F (X w)]?=P (Vc #[U i c m,U j d n,U k f o,U l h p,I J b] 117):=aG w _;have B:F (X w)<(Al w (Vc #[U i c m,U j d n,U k f o,U l h p,I J b] 117)).heap.size:=oS
 have H1:=H (e.alloc (Vc #[U i c m,U j d n,U k f o,U l h p,I J b] 117));have R:=H (s.alloc (Vc #[U i c m,U j d n,U k f o,U l h p,I J b] 117));have S:=H (q.alloc (Vc #[U i c m,U j d n,U k f o,U l h p,I J b] 117));have T:=H (g.alloc (Vc #[U i c m,U j d n,U k f o,U l h p,I J b] 117));clear e s q g;go_in;go_wp2_with fail;refine(Hv _ a b i c m H1 D u).mono ?_;rintro e w1⟨rfl,s⟩;have q:=(s.block (F (X w)) B).trans W;have M:=aQ R s (λg e=>(R.lt g e).2);obtain⟨y1,y⟩:=aj q 1;obtain⟨y4,v⟩:=aj q 4;have z:=(aM.1 q).1;go_wp2_with fail;refine(Hv w1 a b j d n M E u).mono ?_;rintro e w2⟨rfl,x⟩;have r:=(x.block (F (X w)) z).trans q;have t:=s.trans (x.mono s.size);have q3:=aQ S t (λg e=>(S.lt g e).2);obtain⟨z2,N⟩:=aj r 2;obtain⟨z4,Q⟩:=aj r 4;have A:=(aM.1 r).1;clear y1 y y4 v q M;go_wp2_with fail;refine(Hv w2 a b k f o q3 K u).mono ?_;rintro e w3⟨rfl,y⟩;have v:=(y.block (F (X w)) A).trans r;have q:=t.trans (y.mono t.size);have q4:=aQ T q (λg e=>(T.lt g e).2);obtain⟨x3,g⟩:=aj v 3;obtain⟨x4,M⟩:=aj v 4;clear z2 N z4 Q r q3;go_wp2_with fail;refine(Hv w3 a b l h p q4 L u).mono ?_;rintro e N⟨rfl,r⟩;have Q:=H (V.trans ((q.trans (r.mono q.size)).mono oS));clear x3 g x4 M v q4 s x y r t q V W;go_wp2;go_ret;exact⟨rfl,Q⟩
def ami(p s i):∀j,i<=j->j<skip p s i->∃h,p s[j].toNat=true:=by
 fun_induction skip p s i with
 |case1 i h c d=>
  intro j b a;rcases Nat.eq_or_lt_of_le b with rfl|b
  .exact⟨h,c⟩
  exact d j b a
 |case2 i h c=>intro j b a;omega
 |case3 i h=>intro j b a;omega
structure kI(x:B8):Prop where
 ne:0<x.size
 le:x.size<=8
 no:∀c∈x.data.toList,c≠40/\c≠41/\c≠44
variable {a:B8}{b c:Nat}
def afE(e:b<=a.size){s}(h:s∈(a.extract c b).data.toList):∃j i,c<=j/\j<b/\a[j]=s:=by
 rw[Array.mem_toList_iff,Array.mem_iff_getElem]at h;obtain⟨i,j,rfl⟩:=h;have d:(a.extract c b).size=b-c:=by rw[DI];omega
 have h:i<(a.extract c b).size:=j;refine⟨c+i,O,O,O,?_⟩;have:=SY h;rw[<-this];rfl
def abu{p}(f:∀c:UInt8,p c.toNat=Bt->c≠40/\c≠41/\c≠44)(e:b<=a.size)(h:b<skip p a b)(g:skip p a b-b<=8):kI (a.extract b (skip p a b)):=by
 have s:=uR p a b e;refine⟨?_,?_,λc d=>?_⟩
 .rw[DI];omega
 .rw[DI];omega
 obtain⟨j,_,c,k,rfl⟩:=afE s d;obtain⟨_,d⟩:=ami p a b j c k;exact f _ d
def aid(c:UInt8)(h:bO c.toNat=Bt):c≠40/\c≠41/\c≠44:=by refine⟨?_,?_,?_⟩<;>(rintro rfl;revert h;decide)
def agB(c:UInt8)(h:di c.toNat=Bt):c≠40/\c≠41/\c≠44:=by refine⟨?_,?_,?_⟩<;>(rintro rfl;revert h;decide)
def anF(h:(az a b).kind=110\/(az a b).kind=118):kI (az a b).text:=by
 revert h
 unfold az;generalize skip dU a b=k;unfold qO;intro h
 by_cases d:a.size<=k
 .rw[aD d]at h;rcases h with h|h<;>cases h
 rw[aB d]at h⊢
 by_cases p:k<skip bO a k
 .rw[aD p]at h⊢
  by_cases c:(a.extract k (skip bO a k)).toList=[110,111,116]
  .rw[aD c]at h;rcases h with h|h<;>cases h
  rw[aB c]at h⊢
  by_cases s:skip bO a k-k<=8
  .rw[aD s];exact abu aid O p s
  rw[aB s]at h;rcases h with h|h<;>cases h
 rw[aB p]at h⊢
 by_cases c:k<skip di a k
 .rw[aD c]at h⊢
  by_cases s:skip di a k-k<=8
  .rw[aD s];exact abu agB O c s
  rw[aB s]at h;rcases h with h|h<;>cases h
 rw[aB c]at h⊢
 by_cases e:jw a k=0
 .rw[aD e]at h;rcases h with h|h<;>cases h
 rw[aB e]at h
 by_cases f:jw a k=2
 .rw[aD f]at h;rcases h with h|h<;>cases h
 rw[aB f]at h;rcases h with h|h<;>cases h
def Qy(h:(aE a b).1=2\/(aE a b).1=3):kI (hU a b):=by
 by_cases s:b<=a.size
 .have K:=pw a b s;rw[K.k2,K.k3]at h;rw[K.Rk h];exact anF h
 exfalso
 have e:skip dU a b=b:=xL _ _ _ O;have z:(a.extract b a.size).size=0:=by rw[DI];omega
 have:(aE a b).1=0:=by unfold aE;rw[e];simp only;unfold ng;rw[DV O]
 omega
structure qR(pd:B8)(ts:List (Bool×B8)):Prop where
 pd:kI pd
 dc:Z ts<=4
 ts:∀t∈ts,kI t.2
def akJ(s f):∀{p:Nat} {l:List (Bool×B8)} {b:Nat->Nat},(∀t∈l,kI t.2)->∀t∈(dT s f p l b).2.2.1,kI t.2:=by
 induction f with
 |zero=>intro p l b h;exact h
 |succ f e=>
  intro p l b h;rw[dT]
  split
  .rename_i d;have c:∀t∈l++[((aE s p).1==3,hU s p)],kI t.2:=λt a=>by
    rcases aS.1 a with a|a
    .exact h t a
    rw[bu.1 a];exact Qy d
   split
   .exact e c
   exact c
  exact h
def FE{g i k}(h:ik a b=.yes c g i k):qR g i:=by
 have p:=(FD h).2;unfold ik at h
 by_cases s:(aE a b).1=2
 .rw[aD s]at h
  by_cases e:(aE a (aE a b).2.2).1=5
  .rw[aD e]at h
   by_cases f:(dT a 4 (aE a (aE a b).2.2).2.2 [] (λ_=>0)).1=Bt
   .rw[aD f]at h;injection h with j q d p
    subst q d;exact⟨Qy (.inl s),p,akJ a 4 oS⟩
   rw[aB f]at h;cases h
  rw[aB e]at h;injection h with j q d p
  subst q d;exact⟨Qy (.inl s),p,oS⟩
 rw[aB s]at h;cases h
def Hm(R:iu):Prop:=qR R.pd R.ts/\∀l∈R.body,qR l.pd l.ts
def ak8(s e f):∀{p:Nat} {l:List dd} {d:List bW},(∀x∈l,qR x.pd x.ts)->∀x∈(jR s e f p l d).2.2.1,qR x.pd x.ts:=by
 induction f with
 |zero=>intro p l d c;exact c
 |succ f h=>
  intro p l d c;rw[jR]
  cases g:ik s (bR s p 4) with
  |no q=>exact c
  |yes q i j k=>
   have b:∀x∈l++[qM s p i j],qR x.pd x.ts:=λx a=>by
    rcases aS.1 a with a|a
    .exact c x a
    simp at a;subst a;exact FE g
   simp only
   split
   .exact h (p:=(aE s q).2.2) b
   exact b
def akx(s a p c)(h:(iC s a p c).1=Bt):Hm (iC s a p c).2.2.1:=by
 unfold iC at h⊢
 cases b:ik s p with
 |no q=>rw[b]at h;cases h
 |yes q d f e=>
  rw[b]at h;simp only at h⊢
  split
  .exact⟨FE b,oS⟩
  split
  .exact⟨FE b,ak8 s a 3 (p:=(aE s q).2.2) (l:=[]) oS⟩
  exact⟨FE b,oS⟩
def akD(s f):∀{p:Nat} {c:List iu} {d:List bW},(∀R∈c,Hm R)->∀R∈(mA s f p c d).2.2.1,Hm R:=by
 induction f with
 |zero=>intro p c d b;exact b
 |succ f g=>
  intro p c d b;rw[mA]
  split
  .exact b
  split
  .exact b
  split
  .rename_i e;refine g (λR a=>?_);rcases aS.1 a with a|a
   .exact b R a
   simp at a;subst a;exact akx s _ _ _ e
  exact b
def PU(s):∀R∈(dL s).2.2.1,Hm R:=akD s 31 oS
structure RD(w:W8)(tb n:Nat)(ps:P9)(S:B8->Nat)(Lf:B8->Prop)(m cA:Nat)(wr:W8):Prop where
 rg:o8 prog 9 wr tb (F (X w)) n (bq ps S) Lf cA
 lo:∀k,(bq ps S k).isSome=Bt->¬Lf k->S k+1<=m
 hi:m=0\/∃k,(bq ps S k).isSome=Bt/\m=S k+1
 k:Below (F (X w)) w wr
def mH(ps:P9)(S:B8->Nat)(m:Nat):Prop:=(∀k,(bE ps k).isSome=Bt->S k+1<=m)/\(m=0\/∃k,(bE ps k).isSome=Bt/\m=S k+1)
def J0(a S k):(bq a S k).isSome=(bE a k).isSome:=by unfold bq;cases bE a k<;>rfl
def Un(w f n a S)(h:dt prog 9 w f n (bq a S))(b:∀k,(bE a k).isSome=Bt->S k<=1000000):Calls prog 59 #[.map (P f)] w λv E=>∃m,v=Vr (I J (m:Nat))/\mH a S m/\Below (F (X w)) w E:=by
 have v:=H b;have E:=h.lt;clear b;go_in;go_wp2_with(first|(at_range;refine aby _ rfl _ 73 rfl 9 185 underlying9 underlying73 f n (bq a S) rfl h ?_;intro L d b x c i)|go_in)
 try go_frame
 have y:RD w f n a S (λk=>(bq a S k).isSome=Bt) 0 d L:=⟨b,λk g l=>absurd g l,.inl rfl,⟨c.os,c.tape,c.output,O,λj t=>c.block j t oS⟩⟩;have o:=H y;clear b x c i h y
 go_loopg [3] d (λi c wr=>∃(m:Nat)(y:B8->Prop),c=I J (m:Nat)/\RD w f n a S y m i wr)
 exact⟨0,_,rfl,o⟩
 case round=>
  clear o;obtain⟨m,y,rfl,c⟩:=hrel;have x:=c.rg;have b:=H c;clear c;go_wp2_with(first|(at_next;refine abx _ rfl _ rfl 9 underlying9 f (F (X w)) n (bq a S) _ gk (λk=>Va #[Y k,I J (S k),I J ((bE a k).getD 0:Nat)]) (aam a S) rfl x ?_ ?_)|go_in)
  .intro i;have o:=H i;clear i x;go_wp2;go_ret;have c:=ag b;exact⟨m,rfl,⟨λk i=>c.lo k (by rw[J0];exact i) (o k),c.hi.imp id λ⟨k,g,l⟩=>⟨k,by rw[<-J0 a S];exact g,l⟩⟩,c.k⟩
  intro k M g p l i D o u A;have e:(bq a S k).isSome=true:=by rw[l];rfl
  have B:=ag v k (by rw[<-J0 a S];exact e);have r:=H i;have q:=H o;have s:=H e;have z:=H p;have c:=ag b;have K:=c.k.size;clear u x i o l e c p;have o:m<=1000001:=by
   rcases(b).hi with h|⟨j,t,h⟩
   .omega
   have:=ag v j (by rw[<-J0 a S];exact t);omega
  go_wp2;go_roundg g
  case measure=>omega
  case rel=>
   have c:=ag b;have l:=ag q;have p:Below (F (X w)) w M:=⟨l.os.trans c.k.os,l.tape.trans c.k.tape,l.output.trans c.k.output,bf c.k.size l.size,λi x=>(l.block i O oT).trans (c.k.block i x)⟩;refine⟨max m (S k+1),_,by congr 1;omega,r.alloc _,λx u i=>?_,?_,p.alloc p.size _⟩
   .by_cases e:x=k
    .subst e;omega
    have:=c.lo x u (λh=>i ⟨h,e⟩);omega
   rcases Nat.le_total m (S k+1)with h|h
   .right;exact⟨k,s,O⟩
   rw[Nat.max_eq_left h];exact c.hi
inductive qt (rs:List PR)(S:B8->Nat)(limit count:Nat):Nat->List (Th×Nat)->Option (List (Th×Nat))->Prop
 |lE {s:Nat} {K:List (Th×Nat)}:count<=s->qt rs S limit count s K (P K)
 |fails {s:Nat} {K:List (Th×Nat)}:s<count->vi (rs.filter (mx S s)) limit 1 K G->qt rs S limit count s K G
 |next {s:Nat} {K K':List (Th×Nat)} {r:Option (List (Th×Nat))}:s<count->vi (rs.filter (mx S s)) limit 1 K (P K')->qt rs S limit count (s+1) K' r->qt rs S limit count s K r
def uT.filter{b a}(h:uT b a)(f):uT (b.filter f) a:=λK c r d=>h K c r (gI.1 d).1
structure RG(w:W8)(kb:Nat)(rs:List PR)(S:B8->Nat)(limit count:Nat)(TI:Th->Prop)(s:Nat)(K:List (Th×Nat))(wr:W8):Prop where
 m:bQ wr kb K
 ti:∀p∈K,TI p.1
 len:Z K<=limit
 k:Below (F (X w)) w wr
 rel:∀r,qt rs S limit count s K r->qt rs S limit count 0 [] r
def abK(w:W8)(rs:List PR)(ps:P9)(S:B8->Nat)(limit:Nat)(TI:Th->Prop)(en:Ending)(w':W8):Prop:=
 ∃m r,mH ps S m/\qt rs S limit m 0 [] r/\Below (F (X w)) w w'/\(r=G->en=Vr (Vt #[.map G,Vb Bf])) /\
  ∀K,r=P K->∃kb,en=Vr (Vt #[.map (P kb),Vb Bt])/\(F (X w))<=kb/\bQ w' kb K/\(Z K)<=limit/\∀p∈K,TI p.1
def Ve(w d N Q o x n v S b A)(h:gi w d (U N (Z o) Q) o)(hb:d<=F (X w))(m:dt prog 9 w x n (bq v S))(u:∀k,(bE v k).isSome=Bt->S k<=1000000)(mN:Z o<=1000)(j:∀r∈o,r.R.pd.size<=800/\(bE v r.R.pd).isSome=Bt)(i:uT o A)(hl:b<=50):Calls prog 38 #[U N (Z o) Q,.map (P x),I J (b:Nat)] w (abK w o v S b A):=by
 have k:=H h;have HT:=H m;have zG:=H j;have V:=H i;have M:=m.lt;have z:Below (F (X w)) w (Al w (.map #[] 0)):=B9.alloc L9 _;have HC:=H (Un (Al w (.map #[] 0)) x n v S (m.block (z.block x M)) u);have mW:=H z;have K:=@run_makeMap prog;have Bn:=H u;clear h m j i u z;go_in;go_wp2_with(go_at_call 59;refine(HC).mono ?_;rintro en w1⟨m,rfl,j,i⟩;have u:=H j;have z:=H i;clear j i);have i:Below (F (X w)) w w1:=mW.trans (z.mono oS);have s:bQ w1 (F (X w)) []:=(bQ.made w).block (z.block _ oS);have f:=H (show RG w (F (X w)) o S b m A 0 [] w1 from ⟨s,oS,oS,i,λ_ h=>h⟩);have rQ:m<=1000001:=by
  rcases(u).2 with h|⟨j,E,h⟩
  .omega
  have:=ag Bn j E;omega
 clear i s K
 go_loopg [13] m (λj i wr=>∃(s:Nat)(K:List (Th×Nat)),s<=m/\j=m-s/\i=I J (s:Nat)/\RG w (F (X w)) o S b m A s K wr)
 exact⟨0,[],aI _,rfl,rfl,f⟩
 case round=>
  clear f;obtain⟨s,K,_,_,rfl,j⟩:=hrel;have f:=H j;clear j
  by_cases E:s<m
  .have j:=ag f;have hsi:(s:Int)<m:=O;have t:gi wr d (U N (Z o) Q) o:=⟨aQ k.row j.k (λg e=>(k.row.lt g e).2),λr q=>⟨aQ (k.aK r q).hd j.k (λg e=>((k.aK r q).hd.lt g e).2),(k.aK r q).bo.ai j.k,(k.aK r q).eq⟩⟩;have HO:=H (ajl wr d N Q o x n v S s t (bf hb j.k.size) (HT.block (j.k.block x M)) mN zG);have HM:=H j.m;have p:=H (λ(y:W8)(a:O8)(c:Nat)(g:Below (F (X wr)) wr y)(l:gi y d (U a (o.filter (mx S s)).length c) (o.filter (mx S s)))=>aex y (F (X w)) d a c (o.filter (mx S s)) b A K (f.m.block (g.block _ f.m.lt)) l (V.filter _) f.ti f.len hl);clear j t;go_wp2_with fail;refine(HO).mono ?_;rintro en y⟨a2,c2,rfl,g,l⟩;have T:=H (p y a2 c2 g l);have R:=H g;clear g l p;go_wp2_with fail;refine(T).mono ?_;rintro en w3⟨r,L,rfl,l,B⟩;have HK3:=H l;have p:=H L;have W:=H B;have D:Below (F (X w)) w w3:=by
    have j:=ag f;have g:=ag R;have t:=j.k.trans (g.mono j.k.size);exact⟨l.os.trans t.os,l.tape.trans t.tape,l.output.trans t.output,bf t.size l.size,λi hi=>(l.block i (oF t.size) oT).trans (t.block i hi)⟩
   have t:=H D;clear l L B D
   cases q:r with
   |none=>
    rw[q]at p;go_wp2
    go_ret2
    exact⟨m,G,u,f.rel _ (.fails E p),t,λ_=>rfl,λK e=>by cases e⟩
   |some K'=>obtain⟨D,B,i⟩:=W K' q;rw[q]at p;have L:=H D;have l:=H B;clear D B;go_wp2;go_roundg(m-(s+1));exact⟨s+1,K',O,rfl,oN,L,l,i,t,λr h=>f.rel r (.next E p h)⟩;omega
  go_wp2
  go_ret2
  have j:=ag f;exact⟨m,P K,u,j.rel _ (.lE O),j.k,(λe=>by cases e),λg e=>by cases e;exact⟨_,rfl,bD _,j.m,j.len,j.ti⟩⟩
def xO(ps:P9)(A:du):Bool:=match bE ps A.p with
 |some n=>decide (n=Z A.ts)
 |none=>Bt
def amS(w d n b S A a c)(h:dt prog 9 w d n (bq b S))(o:A.p.size<=maxLen):Calls prog 58 #[.map (P d),Va #[Y A.p,U a (Z A.ts) c]] w λg l=>g=Vr (Vb (xO b A))/\Below (F (X w)) w l:=by
 have g:Below (F (X w)) w (Al w (Vc #[Y A.p,U a (Z A.ts) c] 79)):=B9.alloc L9 _;have l:=h.block (g.block d h.lt);have f:=H g;clear h
 cases h:bE b A.p with
 |none=>
  have i:=H (show xO b A=Bt by unfold xO;rw[h]);have k:(bq b S A.p).getD (Va #[Y ⟨#[]⟩,I J 0,I J 0])=Va #[Y ⟨#[]⟩,I J 0,I J 0]:=by unfold bq;rw[h];rfl
  have j:(bq b S A.p).isSome=false:=by unfold bq;rw[h];rfl
  clear g;go_in;go_wp2_with(at_lookup;refine sY _ rfl _ _ 73 rfl 9 185 underlying9 underlying73 (zeroValue185 _) d n (bq b S) rfl l A.p rfl o _ k _ j ?_);go_ret;exact⟨by rw[ag i];rfl,f.alloc f.size _⟩
 |some m=>
  have k:(bq b S A.p).getD (Va #[Y ⟨#[]⟩,I J 0,I J 0])=Va #[Y A.p,I J (S A.p),I J m]:=by unfold bq;rw[h];rfl
  have j:(bq b S A.p).isSome=true:=by unfold bq;rw[h];rfl
  have i:=H (show xO b A=((m:Int)==(Z A.ts:Int)) by
   unfold xO;rw[h]
   by_cases e:m=Z A.ts
   .subst e;simp
   have:¬((m:Int)=Z A.ts):=O
   simp[e,this])
  clear g;go_in;go_wp2_with(at_lookup;refine sY _ rfl _ _ 73 rfl 9 185 underlying9 underlying73 (zeroValue185 _) d n (bq b S) rfl l A.p rfl o _ k _ j ?_);go_ret;exact⟨by rw[ag i];rfl,f.alloc f.size _⟩
def my(l:Int):Bool:=decide (1<=l)&&decide (l<=50)
def YH(w l):Calls prog 34 #[I J l] w λa b=>a=Vr (Vb (my l))/\b=w:=by
 by_cases a:1<=l
 .go_in;go_wp2;go_ret;exact⟨by unfold my;simp[a],rfl⟩
 go_in;go_wp2;go_ret;exact⟨by(unfold my;simp;omega),rfl⟩
def qL(s:B8):Option du:=
 match ik s 0 with
 | .no _=>G
 | .yes p pd ts _=>if(aE s p).1=0 then P ⟨pd,ts⟩ else G
def Rx(w:W8)(r:Option du)(e:Ending)(w':W8):Prop:=
 Below (F (X w)) w w'/\match r with
 |none=>e=Vr (Vt #[Va #[Y ⟨#[]⟩,U G 0 0],Vb Bf])
 |some A=>∃a c,e=Vr (Vt #[Va #[Y A.p,U a (Z A.ts) c],Vb Bt])/\Ow w' (F (X w)) 191 1 (U a (Z A.ts) c) (Z A.ts) (A.ts.map kx)
def acX{w b s}(a:Below (Al w (Vc #[Y ⟨#[]⟩,U G 0 0] 79)).heap.size (Al w (Vc #[Y ⟨#[]⟩,U G 0 0] 79)) b):fX (Al b (Vc #[Y s,I J (aE s 0).1,I J (aE s 0).2.1,I J (aE s 0).2.2,I J 0,U G 0 0] 163)) (F (X b)) s 0 0 (U G 0 0):=by
 have c:=a.size;simp at c;refine⟨oS,?_,?_,?_,?_,?_,?_,?_⟩
 all_goals first|(rw[World.cell?_alloc_at _ _ _ _ rfl];rfl)|(intro o;rw[World.frozen?_alloc_at _ _ _ _ rfl];done)|skip
def akT(w s)(hs:s.size<=2000000):Calls prog 57 #[Y s] w (Rx w (qL s)):=by
 have R:s.size<=maxLen:=oM
 go_in;go_wp2_with fail;refine(QD s 0 (aI _) R _).mono ?_;rintro e E⟨rfl,p⟩;have S:=p.size;have l:=acX (s:=s) p;have j:E.heap[F (X w)]?=P (Vc #[Y ⟨#[]⟩,U G 0 0] 79):=by rw[p.block _ oS];exact aG w _
 have h:Below (F (X w)) w E:=oA.trans (p.mono oS);have K:=H h;have L:=H j;have m:=H l;clear p h j;simp at S;obtain⟨u,V,W,c2,c3,c4,c5,M⟩:=l;clear M;go_wp2_with fail;refine(PM _ (F (X E)) s 0 0 (U G 0 0) Bf (aE s 0).2.1 [] m ⟨dm _ _ _ _,oS⟩ oS (aI _) hs).mono ?_;intro e T o;clear u V W c2 c3 c4 c5;have h:=K.alloc (B:=F (X w)) O (Vc #[Y s,I J (aE s 0).1,I J (aE s 0).2.1,I J (aE s 0).2.2,I J 0,U G 0 0] 163);have j:=(aW E (Vc #[Y s,I J (aE s 0).1,I J (aE s 0).2.1,I J (aE s 0).2.2,I J 0,U G 0 0] 163) (F (X w)) O).trans L
 cases l:ik s 0 with
 |no p=>rw[l]at o;obtain⟨rfl,b,i⟩:=o;have n:=b.size;simp at n;have t:=H (show qL s=G by unfold qL;rw[l]);have d:=ib h b oT oT;have a:=(b.block (F (X w)) oT oT).trans j;have c:=(aW T (Vc #[Y ⟨#[]⟩,U G 0 0] 79) (F (X w)) O).trans a;obtain⟨B,f0⟩:=aj c 0;obtain⟨D,f1⟩:=aj c 1;have f:=H d;clear b i h j d a l m L K c;go_wp2_with fail;obtain⟨z,A⟩:=tS B D (Y ⟨#[]⟩) (U G 0 0);refine bN (v:=Vt #[Va #[Y ⟨#[]⟩,U G 0 0],Vb Bf]) (by simp[results,results57,go_sem,z,A]) rfl ?_;rw[ag t];exact⟨ib (f.alloc O _) (py _ (F (X w)) _ _) oT oS,rfl⟩
 |yes p y r pl=>
  rw[l]at o;obtain⟨_,_,rfl,b,i,Q,k,N⟩:=o;obtain⟨o,q,rfl⟩:=aF k;have n:=b.size;simp at n;have d:=ib h b oT (by simp[Value.ownBlock];omega);have a:=(b.block (F (X w)) oT (by simp[Value.ownBlock];omega)).trans j;obtain⟨u,V,W,c2,c3,c4,c5,M⟩:=i.kept ((ak.refl [] T).alloc (Vc #[Y y,U o (Z r) q] 79)) oS;have x:=aX (base':=F (X w)) k oT;have v:∀g,(U o (Z r) q).ownBlock=P g->g≠(F (X w)):=λg hg e=>by
   have:=gl k (e:=79) oD g (oU hg);subst e;exact this _ _ a
  have c:=(aW T (Vc #[Y y,U o (Z r) q] 79) (F (X w)) O).trans a;obtain⟨B,f0⟩:=aj c 0;obtain⟨D,f1⟩:=aj c 1;have f:=H d;have g:=H x;have e:=H v;clear b i h j d a m L K Q k N M x v c
  by_cases c:(aE s p).1=0
  .have t:=H (show qL s=P ⟨y,r⟩ by unfold qL;rw[l];exact aD c);have v:((aE s p).1 != 0)=false:=(by simp[c]);clear c l;go_wp2_with fail;obtain⟨z,A⟩:=tS B D (Y y) (U o (Z r) q);refine bN (v:=Vt #[Va #[Y y,U o (Z r) q],Vb Bt]) (by simp[results,results57,go_sem,z,A]) rfl ?_;rw[ag t];exact⟨ib (f.alloc O _) (py _ (F (X w)) _ _) oT oS,o,q,rfl,AF (g.alloc _) (py _ (F (X w)) _ _) e⟩
  have t:=H (show qL s=G by unfold qL;rw[l];exact aB c);have v:((aE s p).1 != 0)=true:=by simp[c]
  clear c l;go_wp2_with fail;obtain⟨z,A⟩:=tS B D (Y ⟨#[]⟩) (U G 0 0);refine bN (v:=Vt #[Va #[Y ⟨#[]⟩,U G 0 0],Vb Bf]) (by simp[results,results57,go_sem,z,A]) rfl ?_;rw[ag t];exact⟨ib (f.alloc O _) (py _ (F (X w)) _ _) oT oS,rfl⟩
def pe(ps:P9)(s:B8):Option du:=match qL s with
 |none=>G
 |some A=>if xO ps A then P A else G
def PL{s A}(h:qL s=P A):A.p.size<=s.size/\(Z A.ts)<=4:=by
 unfold qL at h
 split at h
 .cases h
 rename_i p b d c a
 split at h
 .cases h;exact FD a
 cases h
def Z3(w s r n j S)(h:dt prog 9 w r n (bq j S))(Q:s.size<=2000000):Calls prog 37 #[Y s,.map (P r)] w (Rx w (pe j s)):=by
 have z:=h.lt;have E:=H h;clear h;go_in;go_wp2_with fail;refine(akT _ s Q).mono ?_;rintro e k⟨A,o⟩;have B:=A.size;have h:k.heap[F (X w)]?=P (Vc #[Y ⟨#[]⟩,U G 0 0] 79):=by rw[A.block _ oS];exact aG w _
 have b:Below (F (X w)) w k:=oA.trans (A.mono oS);have i:=E.block (b.block r z);have D:=H b;simp at B;clear A b
 cases f:qL s with
 |none=>rw[f]at o;subst o;have l:=H (show pe j s=G by unfold pe;rw[f]);have b:=(aW k (Vc #[Y ⟨#[]⟩,U G 0 0] 79) (F (X w)) O).trans h;obtain⟨t,M⟩:=aj b 0;obtain⟨u,N⟩:=aj b 1;clear f i h b;go_wp2_with fail;obtain⟨p,q⟩:=tS t u (Y ⟨#[]⟩) (U G 0 0);refine bN (v:=Vt #[Va #[Y ⟨#[]⟩,U G 0 0],Vb Bf]) (by simp[results,results37,go_sem,p,q]) rfl ?_;rw[ag l];exact⟨ib (D.alloc O _) (py _ (F (X w)) _ _) oT oS,rfl⟩
 |some A=>
  rw[f]at o;obtain⟨a,c,rfl,d⟩:=o;obtain⟨_,_⟩:=PL f;have o:∀g,(U a (Z A.ts) c).ownBlock=P g->g≠(F (X w)):=λg L e=>by
   have:=d.lt g L;simp at this;omega
  have L:=H (aX (base':=F (X w)) d oS);have x:=H o;have K:=H f;have m:=i.block (aW k (Vc #[Y A.p,U a (Z A.ts) c] 79) r O);have b:=(aW k (Vc #[Y A.p,U a (Z A.ts) c] 79) (F (X w)) O).trans h;have v:=H m;have y:=H b;clear f i m d o h b E;go_wp2_with fail;refine(amS _ r n j S A a c v oM).mono ?_;rintro e E⟨rfl,h⟩;have m:=h.size;simp at m;have d:=(h.block (F (X w)) oT).trans y;have b:=(h.block (F (X k)) oS).trans (aG k _);have i:=H ((D.alloc O _).trans (h.mono oT));have o:=H (aQ (L.alloc _) h (λg e=>by have:=(L.lt g e).2;simp;omega));obtain⟨t,M⟩:=aj d 0;obtain⟨u,N⟩:=aj d 1;obtain⟨_,_⟩:=aj b 0;obtain⟨_,_⟩:=aj b 1;clear h d b
  cases b:xO j A with
  |false=>have l:=H (show pe j s=G by unfold pe;rw[ag K];simp[b]);clear b;go_wp2_with fail;obtain⟨p,q⟩:=tS t u (Y ⟨#[]⟩) (U G 0 0);refine bN (v:=Vt #[Va #[Y ⟨#[]⟩,U G 0 0],Vb Bf]) (by simp[results,results37,go_sem,p,q]) rfl ?_;rw[ag l];exact⟨ib i (py _ (F (X w)) _ _) O oS,rfl⟩
  |true=>have l:=H (show pe j s=P A by unfold pe;rw[ag K];simp[b]);clear b;go_wp2_with fail;obtain⟨p,q⟩:=tS t u (Y A.p) (U a (Z A.ts) c);refine bN (v:=Vt #[Va #[Y A.p,U a (Z A.ts) c],Vb Bt]) (by simp[results,results37,go_sem,p,q]) rfl ?_;rw[ag l];exact⟨ib i (py _ (F (X w)) _ _) O oS,a,c,rfl,AF o (py _ (F (X w)) _ _) x⟩
inductive vj (w:W8)(rs:List PR)(ps:P9)(s:B8)(limit:Int)(w':W8):Ending->Prop
 |arg:my limit=Bf->vj w rs ps s limit w' (Vr (Vt #[U G 0 0,I J 8]))
 |ask:my limit=Bt->pe ps s=G->vj w rs ps s limit w' (Vr (Vt #[U G 0 0,I J 6]))
 |over {A:du} {S:B8->Nat} {m:Nat}:my limit=Bt->pe ps s=P A->ll (rs.map (·.R)) S->og (rs.map (·.R)) S->mH ps S m->qt rs S limit.toNat m 0 [] G->vj w rs ps s limit w' (Vr (Vt #[U G 0 0,I J 7]))
 |yes {A:du} {S:B8->Nat} {m:Nat} {K:List (Th×Nat)} {zs:List B8} {a:O8} {c:Nat}:my limit=Bt->pe ps s=P A->ll (rs.map (·.R)) S->og (rs.map (·.R)) S->mH ps S m->qt rs S limit.toNat m 0 [] (P K)->(K.map (·.1)).Nodup->zs.Perm ((K.filter (rN A)).map λp=>ep p.1)->Ow w' (F (X w)) 9 1 (U a (Z zs) c) (Z zs) ((xN zs).map encStr)->vj w rs ps s limit w' (Vr (Vt #[U a (Z zs) c,I J 0]))
def Fp{l}(h:my l=Bt):1<=l/\l<=50:=by unfold my at h;simpa using h
def gi.Ia{w d n a c b}(h:gi w a c b)(k:Below n w d)(f:F (X w)<=n):gi d a c b:=
 h.iT (B:=[]) ⟨k.os,k.tape,k.output,k.size,λi e _=>k.block i O⟩ oS
def akr(w i b f o s d TI)(hs:s.size<=2000000)(h:oi w i b f)(mN:Z f<=30)(m:∀r∈f,Z r.bs<=3)(K:∀r∈f,r.R.pd.size<=800)(B:∀r∈f,∀x∈r.bs,x.1.pd.size<=800)(D:mE ((f.map (·.R)).flatMap jl) [])(q:iU ((f.map (·.R)).flatMap jl) []=o)(g:Z o<=1000)(A:∀r∈f,(∃n,bE o r.R.pd=P n)/\∀x∈r.bs,∃n,bE o x.1.pd=P n)(f0)(p:ll (f.map (·.R)) f0)(S:∀k,f0 k<=1000)(E:uT f TI)(M:∀t,TI t->(gW t.1 (iP t)).length<=1000000000):Calls prog 20 #[Vp (P (C b 0 G)),Y s,I J d] w λe a=>vj w f o s d a e/\Below (F (X w)) w a:=by
 obtain⟨a,c,hb,aoA,t⟩:=h;have kV:b<F (X w):=(aM.1 hb).1;obtain⟨Q,_⟩:=aj hb 0;have HR:=H t;have HB:=H hb;have Dj:=H E;have HTI:=H M;have N:=H (Jw w i a c f o t mN m K B D q g A f0 p S);have zG:=H (show ∀r∈f,r.R.pd.size<=800/\(bE o r.R.pd).isSome=Bt from λr t=>⟨K r t,by obtain⟨n,e⟩:=(A r t).1;rw[e];rfl⟩);have KO:=H p;have zC:=H S;clear t m K B D q g A p S E M;go_in;go_wp2_with fail;refine(YH w d).mono ?_;rintro e w1⟨rfl,h⟩;have h:=h.symm;subst h
 cases S:my d with
 |false=>
  have M:=H S;clear S;go_wp2
  go_ret2
  exact⟨.arg M,aZ _ _⟩
 |true=>
  obtain⟨l1,l50⟩:=Fp S;obtain⟨lim,rfl⟩:∃n:Nat,d=n:=⟨d.toNat,O⟩;have M:=H S;clear S;go_wp2_with fail;refine(xE _ b _ a (Z f) c rfl Q).mono ?_;rintro e w2⟨rfl,h⟩;have h:=h.symm;subst h;go_wp2_with fail;refine(N).mono ?_;clear N;rintro e w2⟨rfl,cB,D,S,n,E,hn,t,p⟩;have HS:=H (show ∀k,(bE o k).isSome=Bt->S k<=1000000 from λk _=>by have:=p f0 KO k;have:=ag zC k;omega);have HV:=H t;have N:=H p;have HM:=H E;have xZ:=H D;clear t p E D Q;go_wp2_with fail;refine(Z3 w2 s _ n o S HM hs).mono ?_;rintro e D⟨m,E⟩;have uH:=m.size;have k:=xZ.trans (m.mono O);have t:=(k.block b kV).trans HB;have K:=HM.block (m.block _ cB);have B:=HR.Ia k L9
  cases p:pe o s with
  |none=>
   rw[p]at E;subst E;have HP:=H p;have A:=H (k.alloc O (Vc #[Y ⟨#[]⟩,U G 0 0] 79));clear p k t K B m;go_wp2
   go_ret2
   exact⟨.ask M HP,A⟩
  |some A=>
   rw[p]at E;obtain⟨q,u,rfl,g⟩:=E;have V:=k.alloc O (Vc #[Y A.p,U q (Z A.ts) u] 79);have v:=(aW D (Vc #[Y A.p,U q (Z A.ts) u] 79) b O).trans t;have z:=K.block (aW D (Vc #[Y A.p,U q (Z A.ts) u] 79) (F (X w)) O);have W:=B.ai (B9.alloc L9 (Vc #[Y A.p,U q (Z A.ts) u] 79));have x:=g.alloc (Vc #[Y A.p,U q (Z A.ts) u] 79);have j:=aG D (Vc #[Y A.p,U q (Z A.ts) u] 79);obtain⟨apg,h4⟩:A.p.size<=s.size/\(Z A.ts)<=4:=by
    unfold pe at p
    split at p
    .cases p
    rename_i R l
    split at p
    .cases p;exact PL l
    cases p
   have l:(Al D (Vc #[Y A.p,U q (Z A.ts) u] 79)).heap.size=F (X D)+1:=oS;have HP:=H p;have wy:=H V;have R:=H v;have Gs:=H z;have Bk:=H W;have y:=H x;have L:=H j;have yi:=H l;clear p k t K B m V v z W x j g l;go_wp2_with fail;generalize(Al D (Vc #[Y A.p,U q (Z A.ts) u] 79))=w4 at*;obtain⟨Q,_⟩:=aj R 0;refine(xE _ b _ a (Z f) c rfl Q).mono ?_;rintro e w5⟨rfl,h⟩;have h:=h.symm;subst h;clear Q;go_wp2_with fail;have l:=ag yi;refine(Ve w4 i a c f (F (X w)) n o S lim TI Bk O Gs HS O zG Dj O).mono ?_;rintro e w5⟨m,r,t,p,x,B,j⟩;have v:=wy.trans (x.mono O);have h:=(x.block (F (X D)) O).trans L;have k:=aQ y x (λg e=>(y.lt g e).2)
   cases r with
   |none=>
    have g:=B rfl;subst g;have g:=H v;have V:=H (And.intro t p);clear B j t p v h k x l;go_wp2
    go_ret2
    exact⟨.over M HP HV N V.1 V.2,g⟩
   |some K=>
    obtain⟨kb,rfl,IK,z,VH,W⟩:=j K rfl;have Fh:=x.size;obtain⟨y0,_⟩:=aj h 0;obtain⟨y1,_⟩:=aj h 1;have g:=H v;have V:=H (And.intro t p);have Q:=H z;have T:=H k;have Dp:=H W;clear B j t p v h k x z W l;go_wp2_with fail;refine(aix w5 kb (F (X w2)) A q u K Q T h4 O (λp E=>HTI _ (Dp p E))).mono ?_;rintro e v⟨t,k,h,rfl,p,x,l⟩;have z:=H (vj.yes (limit:=(lim:Int)) M HP HV N V.1 V.2 Q.nodup p (aX (base':=F (X w)) x g.size));have W:=H (g.trans (l.mono g.size));clear p x l;go_wp2
    go_ret2
    exact⟨z,W⟩
def wh(A:du):Option Th:=if A.ts.any (·.1) then G else P (A.p,A.ts.map (·.2))
def Qh{d p u}(h:d.results=#[.cell p 88,.tmp u])(a w g t)(f:a.getD p undef=Vp (P (C g 0 G)))(e:w.heap[g]?=P (Vc (bP t).toArray 88)):(results d a).run prog w=.ok (Vt #[cP t,a.getD u undef]) w:=by
 have b:a[p]?.getD undef=Vp (P (C g 0 G)):=by simpa using f
 have c:a.getD u undef=a[u]?.getD undef:=oS
 rw[c];simp[results,h,b,asAddr,Hb w g _ 88 _ _ _ e underlying88 rfl (by rw[vN];rfl),cP]
def Tw(w:W8)(r:Option Th)(en:Ending)(w':W8):Prop:=Below (F (X w)) w w'/\en=Vr (Vt #[cP (r.getD (⟨#[]⟩,[])),Vb r.isSome])
def anr(w t A a c)(h:Ow w t 191 1 (U a (Z A.ts) c) (Z A.ts) (A.ts.map kx))(h4:Z A.ts<=4):Calls prog 65 #[Va #[Y A.p,U a (Z A.ts) c]] w (Tw w (wh A)):=by
 have i:=H h;clear h;have W:=MG;have a2:=MF;have a3:=ME;go_in;go_upto_region 2 with fail;generalize h:World.alloc (World.alloc (World.alloc w _) _) _=o;have L:Below (F (X w)) w o:=by rw[<-h];exact(((aZ (F (X w)) w).alloc L9 _).alloc oS _).alloc oW _
 have v:o.heap[F (X w)]?=P (Vc #[Y A.p,U a (Z A.ts) c] 79):=by rw[<-h,aW _ _ _ oW,aW _ _ _ oS];exact aG w _
 have l:o.heap[F (X w)+1]?=P (Vc (bP ⟨⟨#[]⟩,[]⟩).toArray 88):=by rw[<-h,aW _ _ _ oS];have:=aG (Al w (Vc #[Y A.p,U a (Z A.ts) c] 79)) (Vc (bP ⟨⟨#[]⟩,[]⟩).toArray 88);rw[bL]at this;exact this
 have u:o.heap[F (X w)+1+1]?=P (Vc (bP ⟨A.p,[]⟩).toArray 88):=by rw[<-h];have:=aG (Al (Al w (Vc #[Y A.p,U a (Z A.ts) c] 79)) (Vc (bP ⟨⟨#[]⟩,[]⟩).toArray 88)) (Vc (bP ⟨A.p,[]⟩).toArray 88);rw[bL,bL]at this;exact this
 have m:F (X w)+1+1+1=F (X o):=by rw[<-h];simp
 have k:=gC i (λg e=>L.block g (i.lt g e).2);have N:=H (λg (e:(U a (Z A.ts) c).ownBlock=P g)=>(i.lt g e).2);clear h i;have z:=H m;have D:=H u;have B:=H l;have y:=H k;have b:=H L;obtain⟨V,-⟩:=aj v 1;simp only[bt,aT,bx]at V;clear v l u k L m;go_wp2
 go_loopg [15] (Z A.ts) (λm i wr=>∃(k:Nat)(L:List B8),k<=Z A.ts/\m=Z A.ts-k/\i=I J k/\L=(A.ts.take k).map (·.2)/\(A.ts.take k).any (·.1)=Bf/\wr.heap[F (X w)+1+1]?=P (Vc (bP ⟨A.p,L⟩).toArray 88)/\ak [F (X w)+1+1] o wr)
 exact⟨0,[],aI _,rfl,rfl,rfl,rfl,D,ak.refl _ _⟩
 case round=>
  obtain⟨k,L,_,_,rfl,m,h,v,e⟩:=hrel;have l:Z L=k:=by rw[m];simp;omega
  have u:=ag z;have q:=H (show Below (F (X w)) w wr from ⟨e.os.trans b.os,e.tape.trans b.tape,e.output.trans b.output,bf b.size e.size,λi M=>(e.block i O oT).trans (b.block i M)⟩);have M:=H v;have r:=H e;have Q:=H m;have s:=H l;have p:=H h;have d:=H ((e.block (F (X w)+1) O oS).trans B)
  by_cases j:k<Z A.ts
  .obtain⟨g,rfl,K,_,_,n⟩:=QW y k j;have R:=ag N g rfl;have f:Ce wr (C g k G)=P (kx A.ts[k]):=(r.cell (p:=(C g k G)) K oT).trans n;obtain⟨i,_⟩:=aj v (1+k);replace i:Ce wr (C (F (X w)+1+1) (1+k) G)=P (Y (bj L k)):=by
    rw[i,bt];exact J7 ⟨A.p,L⟩ O
   have T:(k:Int)<Z A.ts:=O;have S:(1+k:Int)<5:=O;clear n u v e m l h
   cases n:A.ts[k].1 with
   |false=>
    have E:Ce wr (C g k G)=P (.iface 193 (Y A.ts[k].2)):=(by rw[f];unfold kx;rw[n];rfl);have x:=H n;clear f n;go_wp2;go_roundg(Z A.ts-(k+1))
    case measure=>omega
    case rel=>
     have:=Nf M (by rw[ag s];omega) A.ts[k].2;rw[ag s]at this;refine⟨k+1,L++[A.ts[k].2],O,rfl,oN,?_,?_,this,r.setCell oS _⟩
     .rw[jr j,fg,ag Q];rfl
     rw[jr j,List.any_append,ag p];simp[ag x]
   |true=>have E:Ce wr (C g k G)=P (.iface 130 (Y A.ts[k].2)):=(by rw[f];unfold kx;rw[n];rfl);have x:=H (show wh A=G by unfold wh;rw[aD (va.2 ⟨_,aN j,n⟩)]);clear f n;go_wp2_with(first|(refine BM rfl 88 _ _ rfl _ _ rfl rfl _ _ d (by rw[vN];rfl) rfl (J8 (⟨#[]⟩,[])) ?_)|fail);refine bN (v:=Vt #[cP (⟨#[]⟩,[]),Vb Bf]) (Qh results65 _ _ _ _ rfl (kn _ _ _ _ _ _ d)) rfl ?_;rw[ag x];exact⟨mJ q O _,rfl⟩
  have x:=H (show wh A=P (A.p,L) by unfold wh;rw[j7 O]at m h;rw[h,m];rfl);clear u v e m l h;go_wp2_with(first|(refine Mh rfl 88 _ rfl _ rfl _ _ _ _ M underlying88 rfl (by rw[vN];rfl) ?_)|(refine BM rfl 88 _ _ rfl _ _ rfl rfl _ _ d (by rw[vN];rfl) rfl (J8 _) ?_)|fail);refine bN (v:=Vt #[cP (A.p,L),Vb Bt]) (Qh results65 _ _ _ _ rfl (kn _ _ _ _ _ _ d)) rfl ?_;rw[ag x];exact⟨mJ q O _,rfl⟩
def aeJ(wr)(a:Nat):(convert 47 9 (U (P (C (F (X wr)) 0 G)) 3 3)).run prog (Al wr (Vc #[I .u8 35,I .u8 ((a:Int)%256),I .u8 ((a:Int)/256%256)] 5))=.ok (Y (sN a)) (Al wr (Vc #[I .u8 35,I .u8 ((a:Int)%256),I .u8 ((a:Int)/256%256)] 5)):=by
 rw[<-Zm];refine run_convert_bytes_arg _ 47 5 underlying47 underlying5 _ 0 3 3 [35,(a:Int)%256,(a:Int)/256%256] rfl (λi b=>?_) _ underlying9
 show Ce (Al wr _) (C (F (X wr)) (0+i) G)=_
 rw[lZ,World.cell?_alloc_at _ _ _ _ rfl]
 match i,b with
 | 0,_=>rfl
 | 1,_=>rfl
 | 2,_=>rfl
def YF(m k a)(h:1<=Z a):(gq [m] k++a).set k m=gq [m] (k+1)++a.drop 1:=by
 match a,h with
 |y0::r,_=>
  have b:(gq [m] k).length=k:=by rw[FT];simp
  rw[G0 _ _ O,b,FQ];simp[gq]
def O0(b):∀u∈jO b,u.oneCell'=true:=by intro u a;rw[Pe,bu]at a;subst a;rfl
def aiq(a):∀u∈jO a++jO a,u.oneCell'=true:=by intro u b;rcases aS.1 b with h|h<;>exact O0 a u h
structure D8(wA:W8)(mk:Nat)(a:O8)(n cap k:Nat)(wr:W8):Prop where
 row:∃ys,Z ys=n-k/\Ow wr 0 9 1 (U a n cap) n (gq (jO mk) k++ys)
 kept:ak (U a n cap).ownBlock.toList wA wr
def D8.step{d b g n a k wr}(h:D8 d b (P (C g 0 G)) n a k wr)(m:k<n):D8 d b (P (C g 0 G)) n a (k+1) (Sc wr (C g k G) (Y (sN b))):=by
 obtain⟨f,l,j⟩:=h.row;have c:=lI j k (Y (sN b));have e:=YF (Y (sN b)) k f O;refine⟨⟨f.drop 1,by rw[so,l];omega,?_⟩,?_⟩
 .rw[Pe]at c⊢;rw[e]at c;exact c
 have i:g∈(U (P (C g 0 G)) n a).ownBlock.toList:=by simp[Value.ownBlock]
 exact h.kept.setCell (p:=(C g _ G)) (.inl i) _
def ajD(w a)(n c b:Nat)(xs)(h:Ow w 0 9 1 (U a n c) n xs)(hn:n<=1000)(vH:b<=1000000000):Calls prog 140 #[U a n c,I J b] w (Mm w 9 (jO b) a n c b):=by
 obtain⟨i0,hi,s,t,u⟩:=info_parts apu;have v:=H h;have i:=aeJ (Al w (Vc #[U G 0 0,U G 0 0,U G 0 0,U G 0 0,I J 0] 117)) b;rw[bL]at i;have j:D8 (Al (Al w (Vc #[U G 0 0,U G 0 0,U G 0 0,U G 0 0,I J 0] 117)) (Vc #[I .u8 35,I .u8 ((b:Int)%256),I .u8 ((b:Int)/256%256)] 5)) b a n c 0 (Al (Al w (Vc #[U G 0 0,U G 0 0,U G 0 0,U G 0 0,I J 0] 117)) (Vc #[I .u8 35,I .u8 ((b:Int)%256),I .u8 ((b:Int)/256%256)] 5)):=⟨⟨xs,by have:=h.1;rw[yo]at this;exact this,(h.alloc _).alloc _⟩,ak.refl _ _⟩;have L:=H (((ak.refl (U a n c).ownBlock.toList w).alloc (Vc #[U G 0 0,U G 0 0,U G 0 0,U G 0 0,I J 0] 117)).alloc (Vc #[I .u8 35,I .u8 ((b:Int)%256),I .u8 ((b:Int)/256%256)] 5));have S:Hid ((Al (Al w (Vc #[U G 0 0,U G 0 0,U G 0 0,U G 0 0,I J 0] 117)) (Vc #[I .u8 35,I .u8 ((b:Int)%256),I .u8 ((b:Int)/256%256)] 5)).heap[F (X w)]?=P (Vc #[U G 0 0,U G 0 0,U G 0 0,U G 0 0,I J 0] 117)):=by
  show _=_
  rw[aW _ _ _ oS];exact aG w _
 clear h;go_in;go_wp2_with fail;clear i;generalize i:(Al (Al w (Vc #[U G 0 0,U G 0 0,U G 0 0,U G 0 0,I J 0] 117)) (Vc #[I .u8 35,I .u8 ((b:Int)%256),I .u8 ((b:Int)/256%256)] 5))=wA at*;clear i
 go_loopg [6] n (λgg i wr=>∃k:Nat,k<=n/\gg=n-k/\i=I J k/\D8 wA b a n c k wr)
 exact⟨0,aI _,rfl,rfl,j⟩
 case round=>
  clear j;obtain⟨k,_,_,rfl,j⟩:=hrel
  by_cases gA:k<n
  .obtain⟨ys,hy,h⟩:=j.row;obtain⟨g,_,A,_,_⟩:=h.form O;injection A with f V d
   subst f d;have y:=(v.lt g rfl).2;have f:=CV h;have d:=PH h;obtain⟨_,_⟩:=d k O;have p:=JO h;have Q:=H (j.step gA);have q:=f k;clear h j d f hy;go_wp2;go_roundg(n-(k+1));exact⟨k+1,O,rfl,oN,Q⟩;omega
  have d:k=n:=O
  subst d;have d:Lm wr 0 9 (jO b) (U a k c) k:=by obtain⟨ys,hy,h⟩:=j.row;have:ys=[]:=wK (by rw[hy];omega);subst this;rw[kO]at h;exact h
  have f:=H d;have y:=H (L.trans j.kept);have g:=pW v S O j.kept;have p:=(aM.1 g).1;have A:=H g;clear d j g L S;go_wp2_with(at_builtin;refine xS _ rfl _ _ 33 rfl 0 9 i0 _ 1 16 underlying33 hi s t u rfl oD a k c (gq (jO b) k) rfl (f.alloc _) (C (F (X wr)) 0 G) 1 1 (jO b) rfl rfl (World.news_of_block (aG wr _)) (O0 b) oD oM O (aI _) ?_);intro S V L j g;have q:Lm L 0 9 (jO b) (U S (k+1) V) (k+1):=by unfold Lm;rw[C1];exact j
  have l:=((ak.refl [] wr).alloc (Vc #[Y (sN b)] 9));have d:(Al wr (Vc #[Y (sN b)] 9)).heap[F (X w)]?=_:=(l.block _ p oS).trans A;have r:=pW v d O g.kept;have D:=g.first O (f.kept l oS) q;have z:=H q;have B:=H g;have x:=H D;have E:=H r;have m:=H l;have e:=(aM.1 r).1;clear j g q D r d l A;go_wp2_with(at_builtin;refine xS _ rfl _ _ 33 rfl 0 9 i0 _ 1 16 underlying33 hi s t u rfl oD a k c (gq (jO b) k) rfl (x.alloc _) (C (F (X L)) 0 G) 2 2 (jO b++jO b) rfl rfl (World.news_of_block (aG L _)) (aiq b) oD oM O (aI _) ?_);intro T W M g j;have r:Lm M 0 9 (jO b) (U T (k+2) W) (k+2):=by unfold Lm;rw[Qd];exact g
  have l:=((ak.refl [] L).alloc (Vc #[Y (sN b),Y (sN b)] 9));have d:(Al L (Vc #[Y (sN b),Y (sN b)] 9)).heap[F (X w)]?=_:=(l.block _ e oS).trans E;have K:=pW v d O j.kept;have q:=j.first O (x.kept l oS) r;have A:=H r;have D:=H j;have R:=H K;have o:=H l;have N:=H q;have g0:mV M 0 9 (jO b) a k c 0 (U a k c) M:=⟨q,ak.refl _ _,.inl rfl⟩;clear g j r K d l q E p e;go_wp2_with fail;have p:=H (λ(e:O8)(l:Nat)(q:W8)(E:mV M 0 9 (jO b) a k c 64 (U e (k+64) l) q)=>vh.of y f m o B z D A E hn vH);clear y f m o B z D A
  go_loopg [9,10] 64 (λgg A i D=>∃(j:Nat)(e:O8)(l:Nat),j<=64/\gg=64-j/\A=U e (k+j) l/\i=I J j/\mV M 0 9 (jO b) a k c j (U e (k+j) l) D)
  exact⟨0,a,c,aI _,rfl,rfl,rfl,g0⟩
  case round=>
   clear g0;obtain⟨j,e,l,_,_,rfl,rfl,g⟩:=hrel;have o:=pW v R O g.kept;have z:=H g
   by_cases f:j<64
   .clear o g;go_wp2_with(at_builtin;refine xS _ rfl _ _ 33 rfl 0 9 i0 _ 1 16 underlying33 hi s t u rfl oD e (k+j) l (gq (jO b) (k+j)) rfl (z.lm.alloc _) (C (F (X wr)) 0 G) 1 1 (jO b) rfl rfl (World.news_of_block (aG wr _)) (O0 b) oD oM O (aI _) ?_);intro B m y d i;have A:Lm y 0 9 (jO b) (U B (k+j+1) m) (k+j+1):=(by unfold Lm;rw[C1];exact d);have D:=H ((z.OK ((ak.refl [] wr).alloc _)).one N i A);clear d i A;go_wp2;go_roundg(64-(j+1));exact⟨j+1,B,m,O,rfl,rfl,oN,D⟩;omega
   have i:j=64:=O;subst i;have Q:=H (p e l wr g);have i:=H (rX o (show(117:TypeId)≠9 by decide));obtain⟨m,_⟩:=aj o 0;obtain⟨B,_⟩:=aj o 1;obtain⟨D,_⟩:=aj o 2;obtain⟨A,_⟩:=aj o 3;obtain⟨d,_⟩:=aj o 4;clear o g p v;go_wp2_with fail;refine bN (v:=Va #[U a k c,U S (k+1) V,U T (k+2) W,U e (k+64) l,I J b]) (by simp[results,results140,go_sem,m,B,D,A,d]) rfl ?_;refine⟨S,T,e,V,W,l,rfl,Q.zm (x:=F (X w)) ?_ L9 i⟩;have v:(F (X w))∈[F (X w)]:=bu.2 rfl;exact(((((ak.refl _ wr).setCell (p:=(C (F (X w)) 0 G)) (.inl v) _).setCell (p:=(C (F (X w)) 1 G)) (.inl v) _).setCell (p:=(C (F (X w)) 2 G)) (.inl v) _).setCell (p:=(C (F (X w)) 3 G)) (.inl v) _).setCell (p:=(C (F (X w)) 4 G)) (.inl v) _
def YT(n):jE n=[I .u8 (n%251:Nat)]:=rfl
def OY(b):∀u∈jE b,u.oneCell'=true:=by intro u a;rw[YT,bu]at a;subst a;rfl
def ain(a):∀u∈jE a++jE a,u.oneCell'=true:=by intro u b;rcases aS.1 b with h|h<;>exact OY a u h
structure D7(wA:W8)(mk:Nat)(a:O8)(n cap k:Nat)(wr:W8):Prop where
 row:∃ys,Z ys=n-k/\Ow wr 0 5 1 (U a n cap) n (gq (jE mk) k++ys)
 kept:ak (U a n cap).ownBlock.toList wA wr
def D7.step{d b g n a k wr}(h:D7 d b (P (C g 0 G)) n a k wr)(m:k<n):D7 d b (P (C g 0 G)) n a (k+1) (Sc wr (C g k G) (I .u8 (b%251:Nat))):=by
 obtain⟨f,l,j⟩:=h.row;have c:=lI j k (I .u8 (b%251:Nat));have e:=YF (I .u8 (b%251:Nat)) k f O;refine⟨⟨f.drop 1,by rw[so,l];omega,?_⟩,?_⟩
 .rw[YT]at c⊢;rw[e]at c;exact c
 have i:g∈(U (P (C g 0 G)) n a).ownBlock.toList:=by simp[Value.ownBlock]
 exact h.kept.setCell (p:=(C g _ G)) (.inl i) _
def ajB(w a)(n b c:Nat)(xs)(h:Ow w 0 5 1 (U a n b) n xs)(hn:n<=1000)(vH:c<=1000000000):Calls prog 142 #[U a n b,I J c] w (Mm w 5 (jE c) a n b c):=by
 obtain⟨i0,hi,s,t,u⟩:=info_parts zg;have v:=H h;have j:D7 (Al w (Vc #[U G 0 0,U G 0 0,U G 0 0,U G 0 0,I J 0] 115)) c a n b 0 (Al w (Vc #[U G 0 0,U G 0 0,U G 0 0,U G 0 0,I J 0] 115)):=⟨⟨xs,by have:=h.1;rw[yo]at this;exact this,h.alloc _⟩,ak.refl _ _⟩;have L:=H ((ak.refl (U a n b).ownBlock.toList w).alloc (Vc #[U G 0 0,U G 0 0,U G 0 0,U G 0 0,I J 0] 115));have S:Hid ((Al w (Vc #[U G 0 0,U G 0 0,U G 0 0,U G 0 0,I J 0] 115)).heap[F (X w)]?=P (Vc #[U G 0 0,U G 0 0,U G 0 0,U G 0 0,I J 0] 115)):=by
  show _=_
  exact aG w _
 clear h;go_in;go_wp2_with fail;generalize i:(Al w (Vc #[U G 0 0,U G 0 0,U G 0 0,U G 0 0,I J 0] 115))=wA at*;clear i
 go_loopg [6] n (λgg i wr=>∃k:Nat,k<=n/\gg=n-k/\i=I J k/\D7 wA c a n b k wr)
 exact⟨0,aI _,rfl,rfl,j⟩
 case round=>
  clear j;obtain⟨k,_,_,rfl,j⟩:=hrel
  by_cases gA:k<n
  .obtain⟨ys,hy,h⟩:=j.row;obtain⟨g,_,A,_,_⟩:=h.form O;injection A with f V d
   subst f d;have y:=(v.lt g rfl).2;have f:=CV h;have d:=PH h;obtain⟨_,_⟩:=d k O;have p:=JO h;have Q:=H (j.step gA);have q:=f k;clear h j d f hy;go_wp2;go_roundg(n-(k+1));exact⟨k+1,O,rfl,oN,Q⟩;omega
  have d:k=n:=O
  subst d;have d:Lm wr 0 5 (jE c) (U a k b) k:=by obtain⟨ys,hy,h⟩:=j.row;have:ys=[]:=wK (by rw[hy];omega);subst this;rw[kO]at h;exact h
  have f:=H d;have y:=H (L.trans j.kept);have g:=pW v S O j.kept;have p:=(aM.1 g).1;have A:=H g;clear d j g L S;go_wp2_with(at_builtin;refine xS _ rfl _ _ 47 rfl 0 5 i0 _ 1 1 underlying47 hi s t u rfl oD a k b (gq (jE c) k) rfl (f.alloc _) (C (F (X wr)) 0 G) 1 1 (jE c) rfl rfl (World.news_of_block (aG wr _)) (OY c) oD oM O (aI _) ?_);intro S V L j g;have q:Lm L 0 5 (jE c) (U S (k+1) V) (k+1):=by unfold Lm;rw[C1];exact j
  have l:=((ak.refl [] wr).alloc (Vc #[I .u8 (c%251:Nat)] 5));have d:(Al wr (Vc #[I .u8 (c%251:Nat)] 5)).heap[F (X w)]?=_:=(l.block _ p oS).trans A;have r:=pW v d O g.kept;have D:=g.first O (f.kept l oS) q;have z:=H q;have B:=H g;have x:=H D;have E:=H r;have m:=H l;have e:=(aM.1 r).1;clear j g q D r d l A;go_wp2_with(at_builtin;refine xS _ rfl _ _ 47 rfl 0 5 i0 _ 1 1 underlying47 hi s t u rfl oD a k b (gq (jE c) k) rfl (x.alloc _) (C (F (X L)) 0 G) 2 2 (jE c++jE c) rfl rfl (World.news_of_block (aG L _)) (ain c) oD oM O (aI _) ?_);intro T W M g j;have r:Lm M 0 5 (jE c) (U T (k+2) W) (k+2):=by unfold Lm;rw[Qd];exact g
  have l:=((ak.refl [] L).alloc (Vc #[I .u8 (c%251:Nat),I .u8 (c%251:Nat)] 5));have d:(Al L (Vc #[I .u8 (c%251:Nat),I .u8 (c%251:Nat)] 5)).heap[F (X w)]?=_:=(l.block _ e oS).trans E;have K:=pW v d O j.kept;have q:=j.first O (x.kept l oS) r;have A:=H r;have D:=H j;have R:=H K;have o:=H l;have N:=H q;have g0:mV M 0 5 (jE c) a k b 0 (U a k b) M:=⟨q,ak.refl _ _,.inl rfl⟩;clear g j r K d l q E p e;go_wp2_with fail;have p:=H (λ(e:O8)(l:Nat)(q:W8)(E:mV M 0 5 (jE c) a k b 64 (U e (k+64) l) q)=>vh.of y f m o B z D A E hn vH);clear y f m o B z D A
  go_loopg [9,10] 64 (λgg A i D=>∃(j:Nat)(e:O8)(l:Nat),j<=64/\gg=64-j/\A=U e (k+j) l/\i=I J j/\mV M 0 5 (jE c) a k b j (U e (k+j) l) D)
  exact⟨0,a,b,aI _,rfl,rfl,rfl,g0⟩
  case round=>
   clear g0;obtain⟨j,e,l,_,_,rfl,rfl,g⟩:=hrel;have o:=pW v R O g.kept;have z:=H g
   by_cases f:j<64
   .clear o g;go_wp2_with(at_builtin;refine xS _ rfl _ _ 47 rfl 0 5 i0 _ 1 1 underlying47 hi s t u rfl oD e (k+j) l (gq (jE c) (k+j)) rfl (z.lm.alloc _) (C (F (X wr)) 0 G) 1 1 (jE c) rfl rfl (World.news_of_block (aG wr _)) (OY c) oD oM O (aI _) ?_);intro B m y d i;have A:Lm y 0 5 (jE c) (U B (k+j+1) m) (k+j+1):=(by unfold Lm;rw[C1];exact d);have D:=H ((z.OK ((ak.refl [] wr).alloc _)).one N i A);clear d i A;go_wp2;go_roundg(64-(j+1));exact⟨j+1,B,m,O,rfl,rfl,oN,D⟩;omega
   have i:j=64:=O;subst i;have Q:=H (p e l wr g);have i:=H (rX o (show(115:TypeId)≠5 by decide));obtain⟨m,_⟩:=aj o 0;obtain⟨B,_⟩:=aj o 1;obtain⟨D,_⟩:=aj o 2;obtain⟨A,_⟩:=aj o 3;obtain⟨d,_⟩:=aj o 4;clear o g p v;go_wp2_with fail;refine bN (v:=Va #[U a k b,U S (k+1) V,U T (k+2) W,U e (k+64) l,I J c]) (by simp[results,results142,go_sem,m,B,D,A,d]) rfl ?_;refine⟨S,T,e,V,W,l,rfl,Q.zm (x:=F (X w)) ?_ L9 i⟩;have v:(F (X w))∈[F (X w)]:=bu.2 rfl;exact(((((ak.refl _ wr).setCell (p:=(C (F (X w)) 0 G)) (.inl v) _).setCell (p:=(C (F (X w)) 1 G)) (.inl v) _).setCell (p:=(C (F (X w)) 2 G)) (.inl v) _).setCell (p:=(C (F (X w)) 3 G)) (.inl v) _).setCell (p:=(C (F (X w)) 4 G)) (.inl v) _
def ahd:(prog.info? 115).map (λi=>(i.zero,i.size,i.bytes))=P (P (Va #[U G 0 0,U G 0 0,U G 0 0,U G 0 0,I J 0]),5,104):=oK
def T0(w b f A s r d a n c xs)(e:w.heap[b]?=P (Vc #[f,A,s,r] 69))(p:jH w (b+1) 115 5 jE A d)(h:Ow w 0 5 1 (U a n c) n xs)(hn:n<=1000)(x:∀m∈d,∀g∈(U a n c).ownBlock.toList,g∉m.kT)(hlen:Z d<=100000000):Calls prog 92 #[Vp (P (C b 1 G)),U a n c] w (Ms w b (λK=>#[f,K,s,r]) 115 5 jE A d (U a n c)):=by
 obtain⟨i0,hi,K,L,M⟩:=info_parts ahd;obtain⟨T,V,rfl⟩:=aF p.row;obtain⟨x3,N⟩:=aj e 1;have k:=H e;have S:=H p;have Q:=H x;have q:=H h;clear p x h e;go_in;go_wp2_with fail;refine(ajB w a n c (Z d) xs q hn O).mono ?_;rintro e t⟨v,y,z,B,D,E,rfl,p⟩;have h:t.heap[b]?=P (Vc #[f,U T (Z d) V,s,r] 69):=lC k p.kept (λx j=>.inr (gl q oD x j));have i:=S.kept p.kept (λx j=>.inr (gl q oD x j)) (λx j=>.inr (λm W=>Q m W x j));have m:=i.row;obtain⟨_,_⟩:=aj h 1;have W:=(aM.1 h).1;have j:=H h;have o:=H i;have R:=H p;have x:=H m;have s3:Hid (∀u∈([U a n c,U v (n+1) B,U y (n+2) D,U z (n+64) E,I J (Z d:Nat)]:V8),u.oneCell'=Bt):=by
  show ∀u∈_,_
  intro u l;simp at l;rcases l with rfl|rfl|rfl|rfl|rfl<;>rfl
 have l:=H p.rI;clear p i m h k S Q q x3 N;go_wp2
 go_region_law(refine step_append_lies _ rfl (.tmp 16) (.tmp 18) 63 rfl (b+1) 115 i0 (Va #[U G 0 0,U G 0 0,U G 0 0,U G 0 0,I J 0]) 5 104 underlying63 hi K L M rfl oD (U T (Z d) V) (Z d) (d.flatMap MB.cells) (by simp[Act.eval]) ((x.alloc _).alloc _) (C (F (X t)+1) 0 G) 1 1 [U a n c,U v (n+1) B,U y (n+2) D,U z (n+64) E,I J (Z d:Nat)] (by simp[Act.eval]) rfl (Pm t _ _) s3 oD oM O oT _ rfl ?_;intro g m w5 h i k rP;obtain⟨N,q,Q,S,p⟩:=MT (j:=1) (a':=P (C g 0 G)) (c':=m) (m:=⟨U a n c,U v (n+1) B,U y (n+2) D,U z (n+64) E,Z d⟩) (A':=#[f,U (P (C g 0 G)) (Z d+1) m,s,r]) j o R (((ak.refl [] t).alloc _).alloc _).drew i h (k.imp id (λe g' e'=>by rw[<-e];exact wR (by simpa[Value.ownBlock]using e'))) oD oD oD oS;obtain⟨_,_⟩:=aj p 1)
 all_goals
  have E1:=H N;have E2:=H q;have E3:=H Q;have E4:=H S;clear s3 j o R x N q Q S p h i;go_wp2;go_end0;exact⟨rfl,_,_,E2,E1,E3,l,E4⟩
def LW.acY{w s b a i k j f u A y v o}(h:LW w b a i k j u A y v)(K:ak (b::i.ownBlock.toList) w s)(n:s.heap[b]?=P (Vc #[a,f,k,j] 69))(l:jH s (b+1) 115 5 jE f o)(t:∀g∈f.ownBlock.toList,g∈i.ownBlock.toList\/F (X w)<=g):LW s b a f k j u o y v/\ak (jL b a i k j) w s:=by
 have m:∀x∈b::i.ownBlock.toList,x∈jL b a i k j:=λx g=>by
  rcases bS.1 g with rfl|g
  .exact bz
  exact bG _ (by simp only[aS];exact .inl (.inl (.inr g)))
 have r:∀(e:TypeId),69≠e->115≠e->∀x∈b::i.ownBlock.toList,er w e x:=λe q c x g=>by
  rcases bS.1 g with rfl|g
  .exact rX h.blk q
  exact gl h.bs.row c x g
 have q:∀c∈jL b a f k j,c∈jL b a i k j\/F (X w)<=c:=λc e=>by
  rcases bS.1 e with rfl|e
  .exact .inl bz
  simp only[aS]at e;have p:c∈a.ownBlock.toList\/c∈k.ownBlock.toList\/c∈j.ownBlock.toList->c∈jL b a i k j:=λd=>bG _ (by simp only[aS];rcases d with d|d|d<;>simp[d])
  rcases e with((e|e)|e)|e
  .exact .inl (p (.inl e))
  .exact(t c e).imp (λz=>m c (bG _ z)) id
  .exact .inl (p (.inr (.inl e)))
  exact .inl (p (.inr (.inr e)))
 exact⟨⟨n,j3 h.row K (λx g=>.inr (r _ oD oD x g)),λp d=>(h.vy p d).step K (λd p=>.inl (m d p)) q,l,h.ts.kept K (λx g=>.inr (r _ oD oD x g)) (λx g=>.inl (r _ oD oD x g)),h.ss.kept K (λx g=>.inr (r _ oD oD x g)) (λx g=>.inl (r _ oD oD x g))⟩,K.mono λx g=>.inl (m x g)⟩
def He(s:B8)(w:W8)(b:Nat)(j5 bv tv sv:V9)(es:List PE)(mb mt ms:List MB)(e:Ending)(w':W8):Prop:=e=Vr (Vb Bt)/\∃psv' es',LW w' b psv' bv tv sv es' mb mt ms/\(Z es)<=Z es'/\(Z es')<=Z es+1/\((eK s).1=Bt->Z es'=Z es+1)/\ak (jL b j5 bv tv sv) w w'
variable {a e:Nat}
def ae6{n}(g:e=a):∀b,(U (P (C e 0 G)) n c).ownBlock=P b->a<=b:=λb d=>by
 have:e=b:=by simpa[Value.ownBlock]using d
 omega
variable {b:List PR}{d f:W8}
def oi.dS(h:oi d e c b)(i:a<=e):oi d a c b:=by obtain⟨w,f,g,_,j⟩:=h;exact⟨w,f,g,O,j.dS i⟩
def oi.ai(h:oi d a c b)(k:Below (F (X d)) d f):oi f a c b:=by obtain⟨i,g,e,w,j⟩:=h;exact⟨i,g,(k.block c (aM.1 e).1).trans e,w,j.ai k⟩
def afk{s w w0 h}(c:(eK s).1=Bt)(x:oi d (F (X w0)) a b)(v:b.map (·.R)=(dL s).2.2.1)(k:F (X w)<=F (X w0))(E:F (X w0)<=F (X d))(u:Below (F (X d)) d f)(y:Ec s d (P h) f):∃i,h=(C i 0 G)/\jI s a i f (F (X w)):=by obtain⟨o,g,z,B,A,D,j,S,e,_,l,m,n,p,q,r,t,i⟩:=y h rfl;exact⟨o,e,c,⟨b,(x.dS k).ai u,v⟩,g,z,B,A,D,j,S,O,l,m,n,p,q,r,t,i⟩
def ahF(w b B bv tv sv c mb mt ms T a N s t u n V R)(h:LW w b B bv tv sv c mb mt ms)(hs:s.size<=maxLen)(hn:(Z c+1)*32<=140737488355328):Calls prog 48 #[Vp (P (C b 0 G)),Va #[I J T,I J a,I J N,Y s,Y t,Y u,U n V R]] w (He s w b B bv tv sv c mb mt ms):=by
 obtain⟨i0,hi,gB,dx,cB⟩:=info_parts ahi;have r:=(aZ (F (X w)) w).alloc L9 (Vc #[I J T,I J a,I J N,Y s,Y t,Y u,U n V R] 26);have D:(Al w (Vc #[I J T,I J a,I J N,Y s,Y t,Y u,U n V R] 26)).heap[F (X w)]?=_:=aG w _;have l:=ZA (Al w (Vc #[I J T,I J a,I J N,Y s,Y t,Y u,U n V R] 26)) s hs;rw[Yu]at l;have mM:=h.lt;go_in;go_wp2_with fail;refine l.mono ?_;rintro e w1⟨d,m,i⟩;have f:=(d.block (F (X w)) oS).trans D;obtain⟨x3,L⟩:=aj f 3;have x:=d.size;have z:=x;rw[bL]at x;have o:=r.trans (d.mono oS);clear l D d r
 cases D:(eK s).1 with
 |false=>
  have r:=m D;subst r;clear m i z;go_wp2_with fail;refine(al4 s w1).mono ?_;rintro e l⟨y,rfl,A,d⟩;have k:y=none:=by rw[D]at A;cases y with|none=>rfl|some _=>cases A
  subst k;have HB:=H (o.trans (d.mono O));have k:=H h;clear d o x3 L A f h;go_wp2;go_ret;exact⟨rfl,B,c,k.ai HB,bD _,L6 _,(λh=>by rw[D]at h;cases h),(ak.refl _ _).bC HB⟩
 |true=>
  obtain⟨k,_,r,v,K⟩:=i D;subst r;have HPI:=H v;have Dw:=H K;have GB:=H z;clear m i v K z;go_wp2_with fail;refine(P6 s w1).mono ?_;rintro e l⟨y,rfl,A,d,K⟩;obtain⟨ya,rfl⟩:∃ya,y=P ya:=by rw[D]at A;cases y with|none=>cases A|some z=>exact⟨z,rfl⟩
  obtain⟨m,rfl,v⟩:=afk (w:=w) D HPI Dw oS GB d K;have r:=(d.block (F (X w)) O).trans f;have aps:=d.size;have p:=o.trans (d.mono O);have S:=h.ai p;have i:=S.row;obtain⟨M,Q,rfl⟩:=aF i;have q:=S.blk;obtain⟨_,_⟩:=aj r 3;obtain⟨_,_⟩:=aj q 0;have IB:=S.lt;have s1:Hid (((Al l (Vc #[Vp (P (C k 0 G)),Vp (P (C m 0 G)),Y s] 112)).drew).ownsRow (b+1) 112 3 (U M (Z c) Q) (Z c) (c.flatMap PE.cells)):=i.alloc _;have s2:Hid (∀j u,([Vp (P (C k 0 G)),Vp (P (C m 0 G)),Y s]:V8)[j]?=P u->((Al l (Vc #[Vp (P (C k 0 G)),Vp (P (C m 0 G)),Y s] 112)).drew).cell? (((C (F (X l)) 0 G):Addr).add j)=P u):=World.news_of_block (aG l _);have s3:Hid (∀u∈([Vp (P (C k 0 G)),Vp (P (C m 0 G)),Y s]:V8),u.oneCell'=Bt):=by
   show ∀u∈_,_
   intro u j;simp at j;rcases j with rfl|rfl|rfl<;>rfl
  have s4:Hid (Z c+1<=maxLen):=by show _<=_;unfold maxLen;omega
  have s5:Hid ((Z c+1)*32<=140737488355328):=hn;have s6:Hid (b+1<=((Al l (Vc #[Vp (P (C k 0 G)),Vp (P (C m 0 G)),Y s] 112)).drew).heap.size):=by show _<=_;simp;omega
  have s8:=H (λ(W:W8)(g j:Nat)(hg:((Al l (Vc #[Vp (P (C k 0 G)),Vp (P (C m 0 G)),Y s] 112)).drew).grownBy W (U M (Z c) Q).ownBlock)(E:Ow W (b+1) 112 3 (U (P (C g 0 G)) (Z c+1) j) (Z c+1) (c.flatMap PE.cells++[Vp (P (C k 0 G)),Vp (P (C m 0 G)),Y s]))(yQ:(U M (Z c) Q).ownBlock=P g\/g=((Al l (Vc #[Vp (P (C k 0 G)),Vp (P (C m 0 G)),Y s] 112)).drew).heap.size)=>LW.ad2 (W:=(Al l (Vc #[Vp (P (C k 0 G)),Vp (P (C m 0 G)),Y s] 112)).drew) (p:=⟨k,m,s⟩) h p v (((ak.refl [] l).alloc _).drew) hg E (yQ.imp (λe=>e.symm) (λe=>ae6 e)));have HB:=H p;clear d o x3 L A f h r S i q p v K;go_wp2
  go_region_law(refine step_append_lies _ rfl (.tmp 46) (.tmp 52) 62 rfl (b+1) 112 i0 (Va #[Vp G,Vp G,Y ⟨#[]⟩]) 3 32 underlying62 hi gB dx cB rfl oD (U M (Z c) Q) (Z c) (c.flatMap PE.cells) (by simp[Act.eval]) s1 (C (F (X l)) 0 G) 1 1 [Vp (P (C k 0 G)),Vp (P (C m 0 G)),Y s] (by simp[Act.eval]) rfl s2 s3 oD s4 s5 s6 _ rfl ?_;intro g j W v K p q;obtain⟨i,S,r⟩:=ag s8 W g j K v p;obtain⟨_,_⟩:=aj r 0)
  all_goals
   clear s1 s2 s3 s4 s5 s6 s8;go_wp2;go_ret;exact⟨rfl,_,_,i,oS,oS,λ_=>oS,S⟩
open Go.Lib
def sB(s:B8):List Nat:=s.data.toList.map UInt8.toNat
def xe(s):(sB s).length=s.size:=by unfold sB;rw[bF];rfl
def T1(s):∀x∈sB s,x<256:=λx a=>by
 obtain⟨b,_,rfl⟩:=aU.1 a;exact b.toNat_lt
def nN(s:B8)(k i:Nat):V9:=if i<s.size then I .u8 (((sB s)[i]?.getD 0:Nat):Int) else if i<k then I .u8 77 else I .u8 0
def aij(n:Nat)(f:n<=3000000)(u):(Instr.makeSlice 47 (I J n) (I J n)).run prog u=.ok (U (some (C (F (X u)) 0 G)) n n) (u.alloc (Vc (madeCells #[I .u8 0] n) 5)):=by obtain⟨e,d,a,b,c⟩:=info_parts zg;have h:=DX (P:=prog) u 47 5 e (I .u8 0) underlying47 d a J J (n:Int) (n:Int) O (DJ _) (by rw[c];omega) O;simpa[b,Value.cells]using h
def ahM(s):((madeCells #[I .u8 0] (s.size+8)).toList.take 0++byteCells s.data.toList++(madeCells #[I .u8 0] (s.size+8)).toList.drop (0+s.size)).toArray=nL (s.size+8) (nN s s.size):=by
 have c:(byteCells s.data.toList).length=s.size:=by rw[byteCells_length];rfl
 rw[Im,BC,ql,lZ];unfold nL
 congr 1
 apply GN;intro k;simp only[gP]
 by_cases a:k<s.size
 .rw[wL (by rw[c];exact a),LU O];have b:=a;simp only[byteCells,gP,dr b,ve,nN,aD a,sB];rfl
 rw[ug (by rw[c];omega),c]
 by_cases b:k<s.size+8
 .rw[List.getElem?_drop,gP,LU O,LU b];simp only[ve,nN,aB a]
 rw[List.getElem?_drop,gP,od (by rw[GR];omega),od (by rw[GR];omega)];rfl
def Mi(w:W8)(s:B8)(Pu:Bool)(e:Ending)(w':W8):Prop:=
 Below (F (X w)) w w'/\((s.size=0/\Pu=Bt/\e=Vr (U G 0 0))\/(e=Vr (U (P (C (F (X w)) 0 G)) s.size (s.size+8))/\gd w' (F (X w)) 5 (s.size+8) (nN s (s.size+8))))
def ahK(s k)(d:s.size<=k):(λj=>if j=k then I .u8 77 else nN s k j)=nN s (k+1):=by
 funext j
 unfold nN
 by_cases b:j=k
 .subst b;rw[aD rfl,aB O,aD O]
 rw[aB b]
 by_cases a:j<s.size
 .rw[aD a,aD a]
 rw[aB a,aB a]
 by_cases c:j<k
 .rw[aD c,aD O]
 rw[aB c,aB O]
def T2{s:B8}(h:s.size=0):s=⟨#[]⟩:=by obtain⟨d⟩:=s;have:d=#[]:=Array.eq_empty_of_size_eq_zero h;rw[this]
def ahL(w s b)(j:s.size<=2000000):Calls prog 80 #[Y s,Vb b] w (Mi w s b):=by
 by_cases i:s.size=0/\b=Bt
 .obtain⟨i,rfl⟩:=i;obtain rfl:=T2 i;go_in;go_wp2;go_ret;exact⟨aZ _ _,.inl ⟨rfl,rfl,rfl⟩⟩
 have a:s.toList.isEmpty=Bf\/(s.toList.isEmpty=Bt/\b=Bf):=by
  cases u:s.toList with
  |cons x r=>exact .inl rfl
  |nil=>
   refine .inr ⟨rfl,?_⟩
   cases b with
   |false=>rfl
   |true=>
    refine absurd ⟨?_,rfl⟩ i;have:Z s.toList=s.size:=by rw[ByteArray.toList_eq];rfl
    rw[u]at this;exact this.symm
 have x:∀u,(Instr.makeSlice 47 (I J ((s.size:Int)+8)) (I J ((s.size:Int)+8))).run prog u=_:=aij (s.size+8) O;have u:=run_copy_row_string (P:=prog) (Al w (Vc (madeCells #[I .u8 0] (s.size+8)) 5)) 47 9 3 5 (F (X w)) 0 (s.size+8) (s.size+8) s (madeCells #[I .u8 0] (s.size+8)) 5 underlying47 oK (aG w _) O (by rw[Im,xh];omega);rw[ahM]at u;have d:Below (F (X w)) w ((Al w (Vc (madeCells #[I .u8 0] (s.size+8)) 5)).setRow (F (X w)) (nL (s.size+8) (nN s s.size))):=by have r:Below (F (X w)) w (Al w (Vc (madeCells #[I .u8 0] (s.size+8)) 5)):=(aZ _ w).alloc L9 _;exact r.trans ⟨rfl,rfl,rfl,oS,λk f=>yr _ _ _ _ O⟩
 have e:gd ((Al w (Vc (madeCells #[I .u8 0] (s.size+8)) 5)).setRow (F (X w)) (nL (s.size+8) (nN s s.size))) (F (X w)) 5 (s.size+8) (nN s s.size):=kn _ _ _ _ _ _ (aG w _);have r:=H d;have c:=H e;have g:(s.size:Int)<=2000000:=O
 clear d e;clear i;rcases a with a|⟨a,rfl⟩
 all_goals
  go_in;go_wp2
  go_loopg [6] 8 (λe i wr=>∃k:Nat,k<=8/\e=8-k/\i=I J ((s.size:Int)+(k:Nat))/\Below (F (X w)) w wr/\gd wr (F (X w)) 5 (s.size+8) (nN s (s.size+k)))
  exact⟨0,aI _,rfl,oS,r,c⟩
  case round=>
   clear r c u x;obtain⟨k,f,_,rfl,r,i⟩:=hrel
   by_cases e:k<8
   .have d:=i.cell (i:=s.size+k) O;have h:=i.fz (s.size+k);have u:=H (i.set (s.size+k) (I .u8 77));have x:=H (r.setCell (p:=(C (F (X w)) (s.size+k) G)) L9 (I .u8 77));have c:(k:Int)<8:=O;clear r i;go_wp2;go_roundg(8-(k+1));exact⟨k+1,O,rfl,oN,x,by rw[ahK s (s.size+k) O]at u;exact u⟩;omega
   have c:k=8:=O;subst c;have u:=H i;have x:=H r;clear i r;go_wp2;go_ret;exact⟨x,.inr ⟨rfl,u⟩⟩
def Kt(w w2:W8)(e:Ending)(w3:W8):Prop:=e=Vr (Vb Bt)/\Below (F (X w)) w2 w3
def adZ(w a):Calls prog 81 #[U G 0 0,Y ⟨#[]⟩] a (Kt w a):=by have b:=run_eql_slice_nil (P:=prog) a 47 5 G 0 0 underlying47;go_in;go_wp2;go_ret;exact⟨oS,aZ _ _⟩
def adY(w a g s)(r:s.size<=2000000)(v:gd a g 5 (s.size+8) (nN s (s.size+8)))(n:F (X w)<=g):Calls prog 81 #[U (some (C g 0 G)) s.size (s.size+8),Y s] a (Kt w a):=by
 have b:(convert 47 9 (U (some (C g 0 G)) s.size (s.size+8))).run prog a=.ok (Y s) a:=by
  have h:=run_convert_bytes_back (P:=prog) a 47 9 5 (C g 0 G) (s.size+8) s.data.toList underlying47 underlying5 underlying9 (λj k=>by
   have i:j<s.size:=k;have e:((C g 0 G):Addr).add j=(C g j G):=(by unfold Addr.add;simp;omega);rw[e,v.cell O];unfold nN sB;rw[aD i,gP,dr k]
   rfl)
  exact h
 have m:=run_eql_slice_nil (P:=prog) a 47 5 (some (C g 0 G)) s.size (s.size+8) underlying47;have h:=H v;have p:(s.size:Int)<=2000000:=O
 clear v;go_in;go_wp2
 go_loopg [5,7] (s.size+8) (λe v i wr=>∃k:Nat,k<=s.size+8/\e=s.size+8-k/\v=Vb Bt/\i=I J (k:Nat)/\Below (F (X w)) a wr/\gd wr g 5 (s.size+8) (λj=>if j<k then I .u8 78 else nN s (s.size+8) j))
 exact⟨0,aI _,rfl,oS,rfl,aZ _ _,by simpa using ag h⟩
 case round=>
  clear h b;obtain⟨k,_,_,rfl,rfl,b,i⟩:=hrel
  by_cases v:k<s.size+8
  .have f:=i.cell (i:=k) v;have q:=i.fz k;rw[aB (BD k)]at f;have c:=H (i.set k (I .u8 78));have e:=H (b.setCell (p:=(C g k G)) n (I .u8 78));have o:(k:Int)<(s.size:Int)+8:=O;have l:(λj=>if j=k then I .u8 78 else if j<k then I .u8 78 else nN s (s.size+8) j)=λj=>if j<k+1 then I .u8 78 else nN s (s.size+8) j:=by
    funext j
    by_cases d:j=k
    .rw[aD d,aD O]
    rw[aB d]
    by_cases h:j<k
    .rw[aD h,aD O]
    rw[aB h,aB O]
   rw[l]at c;clear b i l
   by_cases d:k<s.size
   .have h:(k:Int)<s.size:=O;go_wp2;go_roundg(s.size+8-(k+1));exact⟨k+1,O,rfl,oS,oN,e,c⟩;omega
   have h:¬(k:Int)<s.size:=O;have j:nN s (s.size+8) k=I .u8 77:=(by unfold nN;rw[aB d,aD v]);rw[j]at f;clear j;go_wp2;go_roundg(s.size+8-(k+1));exact⟨k+1,O,rfl,oS,oN,e,c⟩;omega
  have c:k=s.size+8:=O
  subst c;have e:=H b;clear i b;go_wp2;go_ret;exact⟨rfl,e⟩
section
open Go.RowKit Go.Maps
attribute [local go_sem ↓] pB qa p9 pY
attribute [local go_sem] sT sR
def nW(ps:P9)(s:B8):Option Th:=(pe ps s).bind wh
def TV.Z6{b p u}(h:b.results=#[.cell p 88,.tmp u]){w g t}(c:TV w g t)(a)(d:a.getD p undef=Vp (P (C g 0 G))):(results b a).run prog w=.ok (Vt #[cP t,a.getD u undef]) w:=Qh h a w g t d c
def Z4(w s m n i S)(h:dt prog 9 w m n (bq i S))(y:s.size<=2000000):Calls prog 41 #[Y s,.map (P m)] w (Tw w (nW i s)):=by
 have t:=h.lt;have d:Below (F (X w)) w (Al w (Vc (bP (⟨#[]⟩,[])).toArray 88)):=B9.alloc L9 _;have u:=H (Z3 (Al w (Vc (bP (⟨#[]⟩,[])).toArray 88)) s m n i S (h.block (d.block m t)) y);have o:=H d;clear h d;go_in;go_wp2_with fail;refine(u).mono ?_;rintro e g⟨d,k⟩;have B:F (X w)+1<=F (X g):=by have:=d.size;simpa using this
 have R:Below (F (X w)) w g:=o.trans (d.mono oS);have h:TV g (F (X w)) (⟨#[]⟩,[]):=(d.block _ oS).trans (aG w _)
 cases b:pe i s with
 |none=>rw[b]at k;subst k;have f:=H (show nW i s=G by unfold nW;rw[b];rfl);have A:TV (Al g (Vc #[Y ⟨#[]⟩,U G 0 0] 79)) (F (X w)) (⟨#[]⟩,[]):=h.alloc _;have r:(F2 (Vp (P (C (F (X w)) 0 G))) (Va #[Y ⟨#[]⟩,Y ⟨#[]⟩,Y ⟨#[]⟩,Y ⟨#[]⟩,Y ⟨#[]⟩])).run prog (Al g (Vc #[Y ⟨#[]⟩,U G 0 0] 79))=.ok () ((Al g (Vc #[Y ⟨#[]⟩,U G 0 0] 79)).setRow (F (X w)) (bP (⟨#[]⟩,[])).toArray):=A.store (⟨#[]⟩,[]);have a:=H A;have c:=H (R.alloc R.size (Vc #[Y ⟨#[]⟩,U G 0 0] 79));have x:=alQ;clear b h d R A;go_wp2_with fail;refine bN (v:=Vt #[cP (⟨#[]⟩,[]),Vb Bf]) (TV.Z6 results41 (kn _ _ _ _ _ _ a) _ rfl) rfl ?_;rw[ag f];exact⟨mJ c L9 _,rfl⟩
 |some A=>
  rw[b]at k;obtain⟨a,c,rfl,f⟩:=k;obtain⟨z,x⟩:A.p.size<=s.size/\(Z A.ts)<=4:=by
   unfold pe at b
   split at b
   .cases b
   rename_i v q
   split at b
   .cases b;exact PL q
   cases b
  have q:=H (show nW i s=wh A by unfold nW;rw[b];rfl);have v:=H (anr (Al g (Vc #[Y A.p,U a (Z A.ts) c] 79)) _ A a c (f.alloc _) x);have k:=R.alloc R.size (Vc #[Y A.p,U a (Z A.ts) c] 79);have l:TV (Al g (Vc #[Y A.p,U a (Z A.ts) c] 79)) (F (X w)) (⟨#[]⟩,[]):=h.alloc _;have j:=H k;have p:=H l;clear b h d R f k l;generalize wh A=R at*;go_wp2_with fail;refine(v).mono ?_;rintro e h⟨f,rfl⟩;have d:TV h (F (X w)) (⟨#[]⟩,[]):=p.ai f;have r:=d.store (R.getD (⟨#[]⟩,[]));have k:=H d;have l:=H (j.trans (f.mono j.size));clear f d;go_wp2_with fail;refine bN (v:=Vt #[cP (R.getD (⟨#[]⟩,[])),Vb R.isSome]) (TV.Z6 results41 (kn _ _ _ _ _ _ k) _ rfl) rfl ?_;rw[ag q];exact⟨mJ l L9 _,rfl⟩
def kj(ps:P9)(S:B8->Nat)(K:List (Th×Nat))(t:Th):Nat:=if(bE ps t.1).isSome then(if(bK K t).isSome then S t.1 else S t.1+1) else 0
def aob(w d n r a S K t)(h:dt prog 9 w d n (bq a S))(g:bQ w r K)(u:fY t)(z:S t.1<=1000000):Calls prog 66 #[.map (P d),.map (P r),cP t] w λe q=>e=Vr (I J (kj a S K t:Nat))/\Below (F (X w)) w q:=by
 have q:=h.lt;have p:=g.lt;have k:Below (F (X w)) w (Al w (Vc (bP t).toArray 88)):=B9.alloc L9 _;have c:=h.block (k.block d q);have y:Ce (Al w (Vc (bP t).toArray 88)) (C (F (X w)) 0 G)=P (Y t.1):=(aj (TV.new w t) 0).1;have b:t.1.size<=maxLen:=by have:=u.pd;unfold maxLen;simp only[Th.p]at this;omega
 have x:=H g;have e:=H k;obtain⟨i,m⟩:∃i,i=(bP t).toArray:=⟨_,rfl⟩;have l:=H m;unfold cP;rw[<-m]at y c e⊢;clear h g k m
 cases h:bE a t.1 with
 |none=>
  have g:=H (show kj a S K t=0 by unfold kj;rw[h];rfl);have k:(bq a S t.1).getD (Va #[Y ⟨#[]⟩,I J 0,I J 0])=Va #[Y ⟨#[]⟩,I J 0,I J 0]:=by unfold bq;rw[h];rfl
  have j:(bq a S t.1).isSome=false:=by unfold bq;rw[h];rfl
  clear h;go_in;go_wp2_with(at_lookup;refine sY _ rfl _ _ 73 rfl 9 185 underlying9 underlying73 (zeroValue185 _) d n (bq a S) rfl c t.1 rfl b _ k _ j ?_);go_ret;exact⟨by rw[ag g];rfl,e.alloc e.size _⟩
 |some m=>
  have k:(bq a S t.1).getD (Va #[Y ⟨#[]⟩,I J 0,I J 0])=Va #[Y t.1,I J (S t.1),I J m]:=by unfold bq;rw[h];rfl
  have j:(bq a S t.1).isSome=true:=by unfold bq;rw[h];rfl
  have s:=H (show kj a S K t=if(bK K t).isSome then S t.1 else S t.1+1 by unfold kj;rw[h];rfl);have o:Below (F (X w)) w (Al (Al w (Vc i 88)) (Vc #[Y t.1,I J (S t.1),I J m] 185)):=e.alloc e.size _;have A:(oO (Vp (P (C (F (X w)) 0 G)))).run prog (Al (Al w (Vc i 88)) (Vc #[Y t.1,I J (S t.1),I J m] 185))=.ok (cP t) (Al (Al w (Vc i 88)) (Vc #[Y t.1,I J (S t.1),I J m] 185)):=by rw[ag l];exact((TV.new w t).alloc _).load
  have v:=(x.block (o.block r p)).look u underlying83;have f:=H o;clear h o
  cases h:(bK K t).isSome with
  |true=>have g:=H (show kj a S K t=S t.1 by rw[ag s,h];rfl);rw[h]at v;clear h;go_in;go_wp2_with(at_lookup;refine sY _ rfl _ _ 73 rfl 9 185 underlying9 underlying73 (zeroValue185 _) d n (bq a S) rfl c t.1 rfl b _ k _ j ?_);go_ret;exact⟨by rw[ag g];rfl,f⟩
  |false=>have g:=H (show kj a S K t=S t.1+1 by rw[ag s,h];rfl);rw[h]at v;clear h;go_in;go_wp2_with(at_lookup;refine sY _ rfl _ _ 73 rfl 9 185 underlying9 underlying73 (zeroValue185 _) d n (bq a S) rfl c t.1 rfl b _ k _ j ?_);go_ret;exact⟨by rw[ag g];simp,f⟩
end
def ahn:(prog.info? 117).map (λi=>(i.zero,i.size,i.bytes))=P (P (Va #[U G 0 0,U G 0 0,U G 0 0,U G 0 0,I J 0]),5,104):=oK
def aaW(w b f r M s d a n c xs)(e:w.heap[b]?=P (Vc #[f,r,M,s] 69))(p:jH w (b+1) 117 9 jO M d)(h:Ow w 0 9 1 (U a n c) n xs)(hn:n<=1000)(x:∀m∈d,∀g∈(U a n c).ownBlock.toList,g∉m.kT)(hlen:Z d<=100000000):Calls prog 90 #[Vp (P (C b 1 G)),U a n c] w (Ms w b (λE=>#[f,r,E,s]) 117 9 jO M d (U a n c)):=by
 obtain⟨i0,hi,E,K,L⟩:=info_parts ahn;obtain⟨T,V,rfl⟩:=aF p.row;obtain⟨x3,N⟩:=aj e 2;have k:=H e;have S:=H p;have Q:=H x;have q:=H h;clear p x h e;go_in;go_wp2_with fail;refine(ajD w a n c (Z d) xs q hn O).mono ?_;rintro e t⟨v,y,z,A,B,D,rfl,p⟩;have h:t.heap[b]?=P (Vc #[f,r,U T (Z d) V,s] 69):=lC k p.kept (λx j=>.inr (gl q oD x j));have i:=S.kept p.kept (λx j=>.inr (gl q oD x j)) (λx j=>.inr (λm W=>Q m W x j));have m:=i.row;obtain⟨_,_⟩:=aj h 2;have W:=(aM.1 h).1;have j:=H h;have o:=H i;have R:=H p;have x:=H m;have s3:Hid (∀u∈([U a n c,U v (n+1) A,U y (n+2) B,U z (n+64) D,I J (Z d:Nat)]:V8),u.oneCell'=Bt):=by
  show ∀u∈_,_
  intro u l;simp at l;rcases l with rfl|rfl|rfl|rfl|rfl<;>rfl
 have l:=H p.rI;clear p i m h k S Q q x3 N;go_wp2
 go_region_law(refine step_append_lies _ rfl (.tmp 16) (.tmp 18) 64 rfl (b+1) 117 i0 (Va #[U G 0 0,U G 0 0,U G 0 0,U G 0 0,I J 0]) 5 104 underlying64 hi E K L rfl oD (U T (Z d) V) (Z d) (d.flatMap MB.cells) (by simp[Act.eval]) ((x.alloc _).alloc _) (C (F (X t)+1) 0 G) 1 1 [U a n c,U v (n+1) A,U y (n+2) B,U z (n+64) D,I J (Z d:Nat)] (by simp[Act.eval]) rfl (Pm t _ _) s3 oD oM O oT _ rfl ?_;intro g m w5 h i k rP;obtain⟨N,q,Q,S,p⟩:=MT (j:=2) (a':=P (C g 0 G)) (c':=m) (m:=⟨U a n c,U v (n+1) A,U y (n+2) B,U z (n+64) D,Z d⟩) (A':=#[f,r,U (P (C g 0 G)) (Z d+1) m,s]) j o R (((ak.refl [] t).alloc _).alloc _).drew i h (k.imp id (λe g' e'=>by rw[<-e];exact wR (by simpa[Value.ownBlock]using e'))) oD oD oD oS;obtain⟨_,_⟩:=aj p 2)
 all_goals
  have E1:=H N;have E2:=H q;have E3:=H Q;have E4:=H S;clear s3 j o R x N q Q S p h i;go_wp2;go_end0;exact⟨rfl,_,_,E2,E1,E3,l,E4⟩
def LW.Hs{w s b a i k j f u v A y o}(h:LW w b a i k j u v A y)(K:ak (b::k.ownBlock.toList) w s)(n:s.heap[b]?=P (Vc #[a,i,f,j] 69))(l:jH s (b+1) 117 9 jO f o)(t:∀g∈f.ownBlock.toList,g∈k.ownBlock.toList\/F (X w)<=g):LW s b a i f j u v o y/\ak (jL b a i k j) w s:=by
 have m:∀x∈b::k.ownBlock.toList,x∈jL b a i k j:=λx g=>by
  rcases bS.1 g with rfl|g
  .exact bz
  exact bG _ (by simp only[aS];exact .inl (.inr g))
 have r:∀(e:TypeId),69≠e->117≠e->∀x∈b::k.ownBlock.toList,er w e x:=λe q c x g=>by
  rcases bS.1 g with rfl|g
  .exact rX h.blk q
  exact gl h.ts.row c x g
 have q:∀c∈jL b a i f j,c∈jL b a i k j\/F (X w)<=c:=λc e=>by
  rcases bS.1 e with rfl|e
  .exact .inl bz
  simp only[aS]at e;have p:c∈a.ownBlock.toList\/c∈i.ownBlock.toList\/c∈j.ownBlock.toList->c∈jL b a i k j:=λd=>bG _ (by simp only[aS];rcases d with d|d|d<;>simp[d])
  rcases e with((e|e)|e)|e
  .exact .inl (p (.inl e))
  .exact .inl (p (.inr (.inl e)))
  .exact(t c e).imp (λz=>m c (bG _ z)) id
  exact .inl (p (.inr (.inr e)))
 exact⟨⟨n,j3 h.row K (λx g=>.inr (r _ oD oD x g)),λp d=>(h.vy p d).step K (λd p=>.inl (m d p)) q,h.bs.kept K (λx g=>.inr (r _ oD oD x g)) (λx g=>.inl (r _ oD oD x g)),l,h.ss.kept K (λx g=>.inr (r _ oD oD x g)) (λx g=>.inl (r _ oD oD x g))⟩,K.mono λx g=>.inl (m x g)⟩
end
end Go.Proofs.YtldkpahaocjdpaaGreat
