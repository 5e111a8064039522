/-
  Plain: matching. What the reference's environments and texts are to the program's bindings and things.
-/
import Derived.Test.YtldkpahaocjdpaaGreatA20
import Derived.Test.YtldkpahaocjdpaaGreatA21
import Derived.Test.YtldkpahaocjdpaaGreatA16
import Derived.Maps.OwnIn
import Derived.Sort.CutIn
import Derived.Sort.Walk0
set_option maxHeartbeats 16000000
set_option maxRecDepth 1000000
namespace Go.Proofs.YtldkpahaocjdpaaGreat
open Go.Value renaming slice->U,int->I,string->Y,bool->Vb,pointer->Vp,agg->Va,tuple->Vt
open Go.IntKind renaming i64->J
open Go.Ending renaming returned->Vr
open Go.Obj renaming cells->Vc
open _root_.Option renaming none->G,some->P
open _root_.Bool renaming true->Bt,false->Bf
open Go.Addr renaming mk->C
open _root_.List renaming length->Z
open Go.World renaming heap->X,alloc->Al,setCell->Sc,cell?->Ce,ownsRow->Ow
open _root_.Array renaming size->F
open Go.Proofs.Tryz
set_option linter.defProp false
section
def pa(A:aR):du:=⟨A.ax,A.aq.map fV⟩
def bp(A:aR):Th:=(A.ax,A.aq.map (·.text))
def Na(n:B8):∀e:ec,tI e n=nj e n
 | []=>rfl
 |x::r=>by
  have:=Na n r;unfold nj at this⊢;rw[tI,fQ]
  split
  .rfl
  exact this
def afs(e t):nK e t=kr e (fV t):=by
 unfold nK kr fV;simp only
 split
 .exact Na _ _
 rfl
def uS(e A):bp (bk e A)=bM e (pa A):=by
 unfold bp bk bM pa;simp only[km];refine zP rfl ?_;refine uh λt _=>?_
 exact afs e t
def aaS:∀(a b:List (Bool×B8))(i:Nat),a.map (·.2)=b.map (·.2)->gH a i=gH b i
 | [],[],_,_=>rfl
 | [],_::_,_,h=>by cases h
 |_::_,[],_,h=>by cases h
 |t::a,u::b,i,h=>by
  rw[ir,ir]at h;injection h with c d
  rw[gH,gH,c,aaS a b (i+1) d]
variable {a:B8}
def adU{b us}(h:b.map (·.2)=us.map (·.2)):gW a b=gW a us:=by
 have c:Z b=Z us:=by have:=gQ Z h;simpa using this
 unfold gW;rw[aaS b us 0 h,c]
def sU(A):bI A=ep (bp A):=by unfold bI ep fR bp iP;rw[adU (us:=List.map (λx=>(Bf,x)) (List.map (·.text) A.aq)) (by simp[List.map_map,fV,Function.comp_def])]
def yz(c:UInt8):Prop:=c=40\/c=41\/c=44
def QG:∀{a b x y:List UInt8},(∀c∈a,¬yz c)->(∀c∈b,¬yz c)->(∀c,x.head?=P c->yz c)->(∀c,y.head?=P c->yz c)->a++x=b++y->a=b/\x=y
 | [],[],_,_,_,_,_,_,h=>⟨rfl,h⟩
 | [],c::b,x,y,_,hb,hx,_,h=>by
  rw[ql,jA]at h;exact absurd (hx c (by rw[h];rfl)) (hb c bz)
 |c::a,[],x,y,ha,_,_,hy,h=>by
  rw[ql,jA]at h;exact absurd (hy c (by rw[<-h];rfl)) (ha c bz)
 |c::a,d::b,x,y,ha,hb,hx,hy,h=>by
  rw[jA,jA]at h;injection h with a e
  obtain⟨x,b⟩:=QG (λc y=>ha c (bG _ y)) (λc y=>hb c (bG _ y)) hx hy e;exact⟨by rw[a,x],b⟩
def kI.JS{x}(h:kI x):∀c∈x.data.toList,¬yz c:=λc a=>by
 have:=h.no c a;unfold yz;simp[this]
def Uv{x}(h:x.data.toList=a.data.toList):x=a:=by
 cases x;cases a
 simp only at h;rw[LA.1 h]
def QX(a i):∀c,(gH a i++[41]).head?=P c->yz c:=by
 intro c h
 cases a with
 |nil=>simp[gH]at h;exact .inr (.inl h.symm)
 |cons t r=>
  rw[gH]at h;simp only[jA,List.head?_cons,DS]at h;rw[<-h]
  split
  .exact .inl rfl
  exact .inr (.inr rfl)
def aaV:∀(x a:List (Bool×B8))(i:Nat),(∀t∈x,kI t.2)->(∀t∈a,kI t.2)->gH x i++[41]=gH a i++[41]->x.map (·.2)=a.map (·.2)
 | [],[],_,_,_,_=>rfl
 | [],u::a,i,_,_,h=>by
  rw[gH,gH,jA]at h;simp only[ql]at h;injection h with b _
  split at b<;>exact absurd b oD
 |t::x,[],i,_,_,h=>by
  rw[gH,gH,jA]at h;simp only[ql]at h;injection h with b _
  split at b<;>exact absurd b oD
 |t::x,u::a,i,ht,hu,h=>by
  rw[gH,gH,jA,jA]at h;injection h with _ c
  rw[qT,qT]at c;obtain⟨d,e⟩:=QG (ht t bz).JS (hu u bz).JS (QX _ _) (QX _ _) c;rw[ir,ir,Uv d,aaV x a (i+1) (λx a=>ht x (bG _ a)) (λx a=>hu x (bG _ a)) e]
structure xa(t:Th):Prop where
 pd:kI t.1
 ts:∀x∈t.2,kI x
def aaZ(t):(iP t).map (·.2)=t.2:=by unfold iP;simp[List.map_map,Function.comp_def]
variable {c:Th}
def xa.aq(h:xa c):∀x∈iP c,kI x.2:=by intro x a;obtain⟨y,b,rfl⟩:=aU.1 a;exact h.ts y b
def aaH(a):∀c,(gH a 0++if (Z a)=0 then [] else [41]).head?=P c->yz c:=by
 intro c h
 cases a with
 |nil=>simp[gH]at h
 |cons t r=>rw[aB oS]at h;exact QX _ _ c h
def zq{u}(i:xa c)(j:xa u)(h:ep c=ep u):c=u:=by
 have e:gW c.1 (iP c)=gW u.1 (iP u):=by have:=gQ (λx:B8=>x.data.toList) h;simpa[ep]using this
 unfold gW at e;obtain⟨k,a⟩:=QG i.pd.JS j.pd.JS (aaH _) (aaH _) e;have d:(iP c).map (·.2)=(iP u).map (·.2):=by
  cases t:iP c with
  |nil=>
   cases b:iP u with
   |nil=>rfl
   |cons x r=>rw[t,b]at a;simp[gH]at a
  |cons y q=>
   cases b:iP u with
   |nil=>rw[t,b]at a;simp[gH]at a
   |cons x r=>rw[t,b,aB oS,aB oS]at a;have f:=i.aq;have g:=j.aq;rw[t]at f;rw[b]at g;exact aaV _ _ 0 f g a
 rw[aaZ,aaZ]at d;exact zP (Uv k) d
def mG(e:bJ):Prop:=∀p∈e,kI p.2
variable {b:bJ}
def Zs(h:mG b){x}(v:fQ b a=P x):kI x:=by
 induction b with
 |nil=>cases v
 |cons p r c=>
  rw[fQ]at v
  split at v
  .cases v;exact h p bz
  exact c (λq e=>h q (bG _ e)) v
def mG.xM(h:mG b){x}(e:kI x):mG (b++[(a,x)]):=by
 intro p v;rcases aS.1 v with v|v
 .exact h p v
 rw[bu.1 v];exact e
def kI.Yn{x}(h:kI x):(x.toList==[])=false:=by
 have:=h.ne;have e:x.toList≠[]:=by rw[ByteArray.toList_eq];intro e;have:=gQ Z e;rw[mU,kB]at this;omega
 simp[e]
def Jd:∀(a b:List ie)(e:ec),Z a=Z b->mG e->(∀t∈a,kI t.text)->(∀u∈b,kI u.text)->mz e a b=lf e (a.map fV) (b.map (·.text))
 | [],[],e,_,_,_,_=>by rw[mz];rfl;simp
 | [],_::_,_,h,_,_,_=>by cases h
 |_::_,[],_,h,_,_,_=>by cases h
 |t::a,u::b,e,h,he,ht,hu=>by
  have k:Z a=Z b:=by simpa using h
  have d:∀x∈a,kI x.text:=λx g=>ht x (bG _ g)
  have f:∀x∈b,kI x.text:=λx g=>hu x (bG _ g)
  have l:=hu u bz;rw[mz,ir,ir,lf];simp only[GQ,G2];unfold px
  cases i:t.jv with
  |true=>
   have j:nK e t=nj e t.text:=(by unfold nK;rw[i,aD rfl];exact Na _ _);simp only[fV,i,lM];rw[j];unfold xG nj
   cases m:fQ e t.text with
   |none=>
    have:((Option.none:Option B8).getD ⟨#[]⟩).toList==[]:=by rw[ByteArray.toList_eq];rfl
    rw[aD this];exact Jd a b _ k (he.xM l) d f
   |some x=>
    have g:=(Zs he m).Yn;simp only[yp];rw[aB (by rw[g];decide)]
    by_cases c:(x.toList==u.text.toList)=Bt
    .rw[aD c,aD c];exact Jd a b _ k he d f
    rw[aB c,aB c]
  |false=>
   have j:nK e t=t.text:=(by unfold nK;rw[i,aB oD]);simp only[fV,i];rw[j,aB (by rw[(ht t bz).Yn];decide)]
   by_cases c:(t.text.toList==u.text.toList)=Bt
   .rw[aD c,aB oD,aD c];exact Jd a b _ k he d f
   rw[aB c,aB oD,aB c]
structure qQ(ps:P9)(a:du):Prop where
 w:qR a.p a.ts
 bn:bE ps a.p=P (Z a.ts)
structure il(ps:P9)(t:Th):Prop where
 w:xa t
 bn:bE ps t.1=P t.2.length
 dc:t.2.length<=4
def Jc{e a b}(i:mG e)(f:qR (pa a).p (pa a).ts)(k:xa (bp b))(j:a.ax=b.ax->Z a.aq=Z b.aq):gY e a b=dZ e (pa a) (bp b):=by
 unfold gY dZ;have g:(a.ax.toList==b.ax.toList)=Bt↔a.ax=b.ax:=kJ
 by_cases c:(a.ax.toList==b.ax.toList)=Bt
 .have d:=j (g.1 c);rw[aD (by rw[c,d];simp),show(pa a).p=a.ax from rfl,show Th.p (bp b)=b.ax from rfl,aD c];refine Jd _ _ _ d i (λt h=>?_) (λt h=>k.ts _ (aU.2 ⟨t,h,rfl⟩));exact f.ts (fV t) (aU.2 ⟨t,h,rfl⟩)
 rw[aB (by simp only[pE];exact λh=>c h.1),show(pa a).p=a.ax from rfl,show Th.p (bp b)=b.ax from rfl,aB c]
def CW(v n u:B8):∀e:bJ,fQ (e++[(v,n)]) u=match fQ e u with|some x=>P x|none=>if v.toList==u.toList then P n else G
 | []=>by rw[ql,fQ,fQ];simp[fQ]
 |x::r=>by
  rw[jA,fQ,fQ]
  by_cases c:(x.1.toList==u.toList)=Bt
  .rw[aD c,aD c]
  rw[aB c,aB c];exact CW v n u r
structure xY(e e':bJ)(k:Nat):Prop where
 w:mG e'
 len:Z e'<=Z e+k
 ext:∀v x,fQ e v=P x->fQ e' v=P x
variable {g:bJ}
def xY.refl(h:mG b):xY b b 0:=⟨h,O,λ_ _ h=>h⟩
def akk{t n}(f:kI n)(e:mG b)(h:px b t n=P g):xY b g 1/\(t.1=Bt->∃x,fQ g t.2=P x):=by
 unfold px at h
 by_cases d:t.1=Bt
 .rw[aD d]at h;unfold xG at h
  cases c:fQ b t.2 with
  |none=>
   rw[c]at h
   cases h
   refine⟨⟨e.xM f,oS,λv x a=>by rw[CW,a]⟩,λ_=>⟨n,?_⟩⟩;rw[CW,c];simp
  |some x=>
   rw[c]at h;simp only at h
   split at h
   .cases h;exact⟨⟨e,O,λ_ _ h=>h⟩,λ_=>⟨x,c⟩⟩
   cases h
 rw[aB d]at h
 split at h
 .cases h;exact⟨⟨e,O,λ_ _ h=>h⟩,λc=>absurd c d⟩
 cases h
def ZB:∀(v:List tw)(a:List B8)(e u:bJ),Z v=Z a->(∀x∈a,kI x)->mG e->lf e v a=P u->xY e u (Z v)/\∀t∈v,t.1=Bt->∃x,fQ u t.2=P x
 | [],_,e,u,_,_,he,h=>by
  rw[lf]at h
  cases h
  exact⟨xY.refl he,oS⟩
 |t::v,[],_,_,f,_,_,_=>by cases f
 |t::v,n::a,e,u,f,hn,he,h=>by
  rw[lf]at h;simp only[GQ,G2]at h
  cases d:px e t n with
  |none=>rw[d]at h;cases h
  |some k=>
   rw[d]at h;simp only at h;obtain⟨c,i⟩:=akk (hn n bz) he d;obtain⟨b,j⟩:=ZB v a k u (oU f) (λx a=>hn x (bG _ a)) c.w h;refine⟨⟨b.w,by have:=c.len;have:=b.len;simp;omega,λv x a=>b.ext v x (c.ext v x a)⟩,λu v g=>?_⟩;rcases bS.1 v with rfl|v
   .obtain⟨x,a⟩:=i g;exact⟨x,b.ext _ _ a⟩
   exact j u v g
variable {a:P9}{c:du}{e:Th}
def FJ(f:qQ a c)(i:il a e)(k:mG b)(h:dZ b c e=P g):xY b g 4/\∀e∈c.ts,e.1=Bt->∃x,fQ g e.2=P x:=by
 unfold dZ at h
 split at h
 .rename_i t;have l:=kJ.1 t;have x:Z c.ts=e.2.length:=by
   have j:=f.bn;rw[l,i.bn]at j;exact(cI j).symm
  obtain⟨d,j⟩:=ZB c.ts e.2 b g x i.w.ts k h;exact⟨⟨d.w,by have:=d.len;have:=f.w.dc;omega,d.ext⟩,j⟩
 cases h
def PO{K:List (Th×Nat)}(i:∀p∈K,il a p.1):∀(x:List du)(c e:bJ),(∀k∈x,qQ a k)->mG c->e∈gn K x c->xY c e (4*Z x)/\∀k∈x,∀t∈k.ts,t.1=Bt->∃x,fQ e t.2=P x
 | [],c,e,_,he,h=>by
  rw[gn]at h;rw[bu.1 h];exact⟨xY.refl he,oS⟩
 |k::r,c,e,ha,he,h=>by
  rw[gn]at h;obtain⟨p,o,h⟩:=gh.1 h
  cases g:dZ c k p.1 with
  |none=>rw[g]at h;simp at h
  |some n=>
   rw[g]at h;simp only at h;obtain⟨f,l⟩:=FJ (ha k bz) (i p o) he g;obtain⟨d,m⟩:=PO i r n e (λx b=>ha x (bG _ b)) f.w h;refine⟨⟨d.w,by have:=f.len;have:=d.len;simp;omega,λv x b=>d.ext v x (f.ext v x b)⟩,λx b t v j=>?_⟩;rcases bS.1 b with rfl|b
   .obtain⟨y,q⟩:=l t v j;exact⟨y,d.ext _ _ q⟩
   exact m x b t v j
def Ip(A:qQ a c)(g:mG b)(f:∀t∈c.ts,t.1=Bt->∃x,fQ b t.2=P x):il a (bM b c):=by
 refine⟨⟨A.w.pd,λx h=>?_⟩,?_,?_⟩
 .obtain⟨t,d,rfl⟩:=aU.1 h;unfold kr
  split
  .rename_i h;obtain⟨x,e⟩:=f t d h;unfold nj;rw[e];exact Zs g e
  exact A.w.ts t d
 .show bE a c.p=P (c.ts.map (kr b)).length
  rw[bF];exact A.bn
 show(c.ts.map (kr b)).length<=4
 rw[bF];exact A.w.dc
def il.ok(h:il a e):fY e:=
 ⟨by have:=h.w.pd.le;show e.1.size<=_;omega,h.dc,λx b=>by have:=(h.w.ts x b).le;omega,λx b=>(h.w.ts x b).ne⟩
variable {f:List (dd×V9)}
def aiJ :c∈aY f↔∃x∈f,x.1.neg=Bf/\c=⟨x.1.pd,x.1.ts⟩:=by
 unfold aY dq;simp only[km,aU,gI,LJ,xz,dJ]
 constructor
 .rintro⟨x,⟨b,d⟩,rfl⟩;exact⟨x,b,by simpa using d,rfl⟩
 rintro⟨x,b,d,rfl⟩;exact⟨x,⟨b,by simp[d]⟩,rfl⟩
def aiH :c∈jj f↔∃x∈f,x.1.neg=Bt/\c=⟨x.1.pd,x.1.ts⟩:=by
 unfold jj dq;simp only[km,aU,gI,LJ,xz,dJ]
 constructor
 .rintro⟨x,⟨b,d⟩,rfl⟩;exact⟨x,b,by simpa using d,rfl⟩
 rintro⟨x,b,d,rfl⟩;exact⟨x,⟨b,by simp[d]⟩,rfl⟩
structure kD(ps:P9)(r:PR):Prop where
 l3:Z r.bs<=3
 hd:qQ ps (cq r)
 ls:∀x∈r.bs,qQ ps ⟨x.1.pd,x.1.ts⟩
 QA:∀t∈(cq r).ts,t.1=Bt->∃a∈aY r.bs,t∈a.ts
 aae:∀x∈jj r.bs,∀t∈x.ts,t.1=Bt->∃a∈aY r.bs,t∈a.ts
variable {d:PR}
def kD.pos(h:kD a d):∀b∈aY d.bs,qQ a b:=λb c=>by
 obtain⟨x,b,_,rfl⟩:=aiJ.1 c;exact h.ls x b
def kD.neg(h:kD a d):∀b∈jj d.bs,qQ a b:=λb c=>by
 obtain⟨x,b,_,rfl⟩:=aiH.1 c;exact h.ls x b
def ZJ(a):(aY a).length<=Z a:=by unfold aY dq;rw[bF,bF];exact qU _ _
def B5:mG []:=λp a=>by cases a
structure Mt(ps:P9)(r:PR)(e:bJ):Prop where
 w:mG e
 len:Z e<=12
 hd:il ps (bM e (cq r))
 neg:∀x∈jj r.bs,il ps (bM e x)
def kD.qb(h:kD a d){K}(k:∀p∈K,il a p.1)(l:b∈gn K (aY d.bs) []):Mt a d b:=by
 obtain⟨g,e⟩:=PO k (aY d.bs) [] b h.pos B5 l;refine⟨g.w,?_,Ip h.hd g.w λt f c=>?_,λx j=>Ip (h.neg x j) g.w λt f c=>?_⟩
 .have i:=g.len;have r:=ZJ d.bs;have p:=h.l3;rw[kB]at i;omega
 .obtain⟨i,r,p⟩:=h.QA t f c;exact e i r t p c
 obtain⟨i,r,p⟩:=h.aae x j t f c;exact e i r t p c
def MZ{d}(h:∀r∈d,kD a r):uT d (il a):=λ_ c r b=>
 have g:=h r b
 ⟨⟨g.l3,λx b=>(g.ls x b).w.dc,g.hd.w.dc,λ_ r x b=>((g.qb c r).neg x b).ok,λ_ r=>(g.qb c r).hd.ok,λ_ r=>(g.qb c r).len⟩,λ_ r=>(g.qb c r).hd⟩
def ab1(h:il a e):(gW e.1 (iP e)).length<=1000000000:=by
 have c:=JP (iP e) 0 (λx b=>by have:=(h.w.aq x b).le;omega);have b:(iP e).length=e.2.length:=by unfold iP;simp
 have x:=h.dc;have d:=h.w.pd.le;have t:=mU e.1;unfold gW;rw[br,br];have f:(if(iP e).length=0 then([]:List UInt8) else [41]).length<=1:=by split<;>simp
 have g:(iP e).length*1001<=4*1001:=yn _ O;omega
structure ia(ps:P9)(K:List (Th×Nat))(l:List aP):Prop where
 mem:∀t n,(t,n)∈K↔∃f∈l,bp f.aH=t/\f.h=n
 Jm:(K.map (·.1)).Nodup
 zj:(l.map λf=>bp f.aH).Nodup
 dI:∀f∈l,il ps (bp f.aH)
 text:∀f∈l,f.text=ep (bp f.aH)
def aai(a):ia a [] []:=⟨oS,oS,oS,oS,oS⟩
variable {b:List (Th×Nat)}{c:List aP}
def ia.ti(h:ia a b c):∀p∈b,il a p.1:=λp l=>by
 obtain⟨f,K,e,_⟩:=(h.mem p.1 p.2).1 l;rw[<-e];exact h.dI f K
def ia.key(h:ia a b c)(t):t∈b.map (·.1)↔t∈c.map λf=>bp f.aH:=by
 rw[aU,aU]
 constructor
 .rintro⟨p,l,rfl⟩;obtain⟨f,K,e,_⟩:=(h.mem p.1 p.2).1 l;exact⟨f,K,e⟩
 rintro⟨f,K,rfl⟩;exact⟨(bp f.aH,f.h),(h.mem _ _).2 ⟨f,K,rfl,rfl⟩,rfl⟩
def ia.FF(h:ia a b c):(b.map (·.1)).Perm (c.map λf=>bp f.aH):=(GY h.Jm h.zj).2 h.key
def ia.len(h:ia a b c):Z b=Z c:=by have:=h.FF.length_eq;simpa using this
def ia.look(h:ia a b c)(t):(bK b t).isSome=Bt↔∃f∈c,bp f.aH=t:=by
 constructor
 .intro l;obtain⟨n,K⟩:=tq.1 l;obtain⟨f,d,e,_⟩:=(h.mem t n).1 (rU K);exact⟨f,d,e⟩
 rintro⟨f,d,rfl⟩;rw[sL h.Jm ((h.mem _ _).2 ⟨f,d,rfl,rfl⟩)];rfl
def U2(t:B8):∀(l:List aP)(k:Nat),(uA t l k<0↔∀f∈l,f.text≠t)
 | [],k=>by simp[uA]
 |x::r,k=>by
  rw[uA]
  by_cases c:(x.text.toList==t.toList)=Bt
  .rw[aD c];have:x.text=t:=kJ.1 c
   constructor
   .intro h;omega
   intro h;exact absurd this (h x bz)
  rw[aB c,U2 t r (k+1)];have l:x.text≠t:=λe=>c (kJ.2 e)
  constructor
  .intro h f e;rcases bS.1 e with rfl|e
   .exact l
   exact h f e
  exact λh f e=>h f (bG _ e)
def yL(l t):dp l t<0↔∀f∈l,f.text≠t:=U2 t l 0
def ia.Aa(h:ia a b c){t}(d:il a t):dp c (ep t)<0↔(bK b t).isSome=false:=by
 rw[yL,<-DH,h.look]
 constructor
 .rintro l ⟨f,K,e⟩;exact l f K (by rw[h.text f K,e])
 intro l f K e;refine l ⟨f,K,zq (h.dI f K).w d.w ?_⟩;rw[<-h.text f K,e]
def kL(b:List aR):List du:=(b.filter λA=>!A.no).map pa
def Jp(b:List aR):List du:=(b.filter λA=>A.no).map pa
def Kn{a:aR}{x:kR}{e:ec}:∀(l:List aP)(i:Nat),(∃y∈jU a x l i,y.1=e)↔∃f∈l,gY x.1 a f.aH=P e
 | [],_=>by simp[jU]
 |f::r,i=>by
  have d:=Kn (a:=a) (x:=x) (e:=e) r (i+1);rw[jU]
  constructor
  .rintro⟨y,l,rfl⟩;rcases aS.1 l with l|l
   .cases b:gY x.1 a f.aH with
    |none=>rw[b]at l;simp at l
    |some c=>rw[b]at l;rw[bu.1 l];exact⟨f,bz,b⟩
   obtain⟨g,c,e⟩:=d.1 ⟨y,l,rfl⟩;exact⟨g,bG _ c,e⟩
  rintro⟨g,c,b⟩;rcases bS.1 c with rfl|c
  .refine⟨(e,x.2++[i]),aS.2 (.inl ?_),rfl⟩;rw[b];exact bu.2 rfl
  obtain⟨y,l,e⟩:=d.2 ⟨g,c,b⟩;exact⟨y,aS.2 (.inr l),e⟩
def Re(g:ia a b c):∀(K:List aR)(now:List kR)(e:bJ),(∀o∈K,qQ a (pa o))->(∀x∈now,mG x.1)->((∃y∈j6 c K now,y.1=e)↔∃x∈now,e∈gn b (kL K) x.1)
 | [],now,e,_,_=>by
  rw[j6]
  constructor
  .rintro⟨y,K,rfl⟩;exact⟨y,K,bu.2 rfl⟩
  rintro⟨y,K,h⟩;exact⟨y,K,(bu.1 h).symm⟩
 |o::r,now,e,ha,hn=>by
  have m:∀x∈r,qQ a (pa x):=λx h=>ha x (bG _ h)
  have i:=ha o bz;rw[j6]
  cases n:o.no with
  |true=>have k:kL (o::r)=kL r:=(by unfold kL;rw[tf,n];simp);rw[aD rfl,k];exact Re g r now e m hn
  |false=>
   have k:kL (o::r)=pa o::kL r:=(by unfold kL;rw[tf,n];simp);have j:∀x∈now,∀f∈c,gY x.1 o f.aH=dZ x.1 (pa o) (bp f.aH):=λx h f l=>by
    refine Jc (hn x h) i.w (g.dI f l).w λe=>?_
    have d:bE a o.ax=P (pa o).ts.length:=i.bn;have p:bE a f.aH.ax=P (bp f.aH).2.length:=(g.dI f l).bn;rw[e,p]at d;have:=cI d;simp only[bp,pa,bF]at this;exact this.symm
   have v:∀y∈jy o c now,mG y.1:=λy K=>by
    obtain⟨x,h,K⟩:=gh.1 K;obtain⟨f,l,d⟩:=(Kn c 0).1 ⟨y,K,rfl⟩;rw[j x h f l]at d;exact(FJ i (g.dI f l) (hn x h) d).1.w
   rw[aB oD,k,Re g r (jy o c now) e m v]
   constructor
   .rintro⟨y,K,e⟩;obtain⟨x,h,K⟩:=gh.1 K;obtain⟨f,l,d⟩:=(Kn c 0).1 ⟨y,K,rfl⟩;rw[j x h f l]at d;refine⟨x,h,?_⟩;rw[gn];refine gh.2 ⟨(bp f.aH,f.h),(g.mem _ _).2 ⟨f,l,rfl,rfl⟩,?_⟩;rw[d];exact e
   rintro⟨x,h,e⟩;rw[gn]at e;obtain⟨p,u,e⟩:=gh.1 e;obtain⟨f,l,s,_⟩:=(g.mem p.1 p.2).1 u
   cases d:dZ x.1 (pa o) p.1 with
   |none=>rw[d]at e;simp at e
   |some k=>rw[d]at e;have q:gY x.1 o f.aH=P k:=(by rw[j x h f l,s];exact d);obtain⟨y,K,t⟩:=(Kn (x:=x) c 0).2 ⟨f,l,q⟩;exact⟨y,gh.2 ⟨x,h,K⟩,by rw[t];exact e⟩
structure nD(R:bg)(r:PR):Prop where
 eq:r.R=fm R
 bd:r.bs.map (·.1)=r.R.body
variable {e:bg}
def nD.pos(h:nD e d):aY d.bs=kL e.body:=by
 have R:d.bs.map (·.1)=e.body.map iL:=by rw[h.bd,h.eq];rfl
 unfold aY dq kL;have:∀(c:List (dd×V9))(b:List aR),c.map (·.1)=b.map iL->((c.filter (dJ Bf)).map xz).map (·.1)=(b.filter λA=>!A.no).map pa:=by
  intro c
  induction c with
  |nil=>intro b a;cases b with
   |nil=>rfl
   |cons x d=>cases a
  |cons x q i=>
   intro b a
   cases b with
   |nil=>cases a
   |cons A b=>
    rw[ir,ir]at a;injection a with r f
    have:=i b f;rw[tf,tf];have g:x.1.neg=A.no:=(by rw[r];rfl);unfold dJ at this⊢;rw[g]
    cases A.no with
    |true=>simpa using this
    |false=>
     simp only[LC,lM,beq_self_eq_true,ir];rw[this]
     congr 1
     show(⟨x.1.pd,x.1.ts⟩:du)=pa A
     rw[r];rfl
 exact this _ _ R
def nD.neg(h:nD e d):jj d.bs=Jp e.body:=by
 have R:d.bs.map (·.1)=e.body.map iL:=by rw[h.bd,h.eq];rfl
 unfold jj dq Jp;have:∀(c:List (dd×V9))(b:List aR),c.map (·.1)=b.map iL->((c.filter (dJ Bt)).map xz).map (·.1)=(b.filter λA=>A.no).map pa:=by
  intro c
  induction c with
  |nil=>intro b a;cases b with
   |nil=>rfl
   |cons x d=>cases a
  |cons x q i=>
   intro b a
   cases b with
   |nil=>cases a
   |cons A b=>
    rw[ir,ir]at a;injection a with r f
    have:=i b f;rw[tf,tf];have g:x.1.neg=A.no:=(by rw[r];rfl);unfold dJ at this⊢;rw[g]
    cases A.no with
    |false=>simpa using this
    |true=>
     simp only[lM,beq_self_eq_true,ir];rw[this]
     congr 1
     show(⟨x.1.pd,x.1.ts⟩:du)=pa A
     rw[r];rfl
 exact this _ _ R
def nD.hd(h:nD e d):cq d=pa e.ay:=by unfold cq;rw[h.eq];rfl
def nD.body(h:nD e d)(c:kD a d):∀b∈e.body,qQ a (pa b):=λb x=>by
 have R:iL b∈d.bs.map (·.1):=by rw[h.bd,h.eq];exact aU.2 ⟨b,x,rfl⟩
 obtain⟨x,r,b⟩:=aU.1 R;have:=c.ls x r;rw[b]at this;exact this
def C4(f:ia a b c)(g:nD e d)(m:kD a d)(R):(∃y∈lX e c,y.1=R)↔R∈jn b (jj d.bs) (aY d.bs) []:=by
 have j:(∃y∈j6 c e.body [([],[])],y.1=R)↔R∈gn b (aY d.bs) []:=by
  rw[Re f e.body [([],[])] R (g.body m) (λx K=>by rw[bu.1 K];exact B5),g.pos]
  constructor
  .rintro⟨x,K,h⟩;rw[bu.1 K]at h;exact h
  exact λh=>⟨_,bu.2 rfl,h⟩
 have k:R∈gn b (aY d.bs) []->(e.body.all (pP c R)=Bt↔nJ b (jj d.bs) R=Bf):=λn=>by
  have w:=m.qb f.ti n;have i:=w.neg;rw[g.neg]at i⊢;unfold nJ;rw[List.all_eq_true,List.any_eq_false]
  constructor
  .intro h x K;obtain⟨A,r,rfl⟩:=aU.1 K;obtain⟨r,l⟩:=gI.1 r;have:=h A r;unfold pP at this;simp only[l,LD,LB,qW]at this;rw[sU,uS]at this;rw[(f.Aa (i _ K)).1 this]
   decide
  intro h A r;unfold pP
  cases l:A.no with
  |false=>rfl
  |true=>have K:pa A∈Jp e.body:=aU.2 ⟨A,gI.2 ⟨r,l⟩,rfl⟩;have:=h _ K;simp only[LD,LB,qW];rw[sU,uS];exact(f.Aa (i _ K)).2 (oU this)
 unfold lX jn
 constructor
 .rintro⟨y,l,rfl⟩;obtain⟨l,r⟩:=gI.1 l;have n:=j.1 ⟨y,l,rfl⟩;exact gI.2 ⟨n,by rw[(k n).1 r];rfl⟩
 intro n;obtain⟨n,r⟩:=gI.1 n;obtain⟨y,l,rfl⟩:=j.2 n;exact⟨y,gI.2 ⟨l,(k n).2 (oU r)⟩,rfl⟩
open Go.RowKit
variable {c1 c2 c3 c4 c5 c6 c8 c9 ed eM eN et eu dv dy eh dn cJ cF bX bY bZ b7 b8 cc cd cg ck cm cy cz cC cD cE cK cL cM cQ cR cS cT cU cV cW cX cY cZ da cN cO de dh cG:V9}
def jQ(S:Nat->Nat):Nat->Nat
 | 0=>0
 |n+1=>max (jQ S n) (S n)
def Pj{S:Nat->Nat}{m:Nat}:∀(n:Nat),(∀i,i<n->S i<=m)->jQ S n<=m
 | 0,_=>aI _
 |n+1,h=>Nat.max_le.2 ⟨Pj n (λi a=>h i O),h n O⟩
variable {a:Exit->Act->W8->Prop}
def aiQ(w o k j rv pv tv gs S)(hC:sw w o k j rv pv tv gs S)(Q b)(W:Q<=50)(ap2:b<=1000000)(w1)(V:su w (U G 0 0) [] w1)(v:∀s c T u9 f h e d u32 i g l m n p q t u x y z A B D E K L M N R,su w s c T->Z c<=Q->kH j S (k.map (·.R)) Q b 0 [] (P (c.map (·.F)))->a (.exit 2) ⟨List.toArray (Vp (P (C o 0 G))::I J Q::c2::c3::U G 0 0::Vb Bf::s::I J b::c8::u9::f::h::e::et::eu::dv::dy::eh::dn::cJ::cF::bX::bY::bZ::b7::b8::cc::cd::cg::ck::cm::d::u32::i::g::l::m::n::p::q::t::u::x::y::z::A::B::D::E::K::L::M::N::R::cG::[]),[]⟩ T)(r:∀s T u9 f h e d u32 i g l m n p q t u x y z A B D E K L M N R,Below (F (X w)) w T->kH j S (k.map (·.R)) Q b 0 [] G->a .ret ⟨List.toArray (Vp (P (C o 0 G))::I J Q::c2::c3::U G 0 0::Vb Bf::s::I J b::c8::u9::f::h::e::et::eu::dv::dy::eh::dn::cJ::cF::bX::bY::bZ::b7::b8::cc::cd::cg::ck::cm::d::u32::i::g::l::m::n::p::q::t::u::x::y::z::A::B::D::E::K::L::M::N::R::cG::[]),[]⟩ T):Code.wp prog (Code.loop (Pf 1)) a ⟨List.toArray (Vp (P (C o 0 G))::I J Q::c2::c3::U G 0 0::Vb Bf::U G 0 0::I J b::c8::I J 0::ed::eM::eN::et::eu::dv::dy::eh::dn::cJ::cF::bX::bY::bZ::b7::b8::cc::cd::cg::ck::cm::cy::cz::cC::cD::cE::cK::cL::cM::cQ::cR::cS::cT::cU::cV::cW::cX::cY::cZ::da::cN::cO::de::dh::cG::[]),[]⟩ w1:=by
 conv=>arg 2;arg 1;whnf
 have q:=H hC;have f:=H V;have t:=H v;have u:=H r;clear hC V v r
 go_loopg [4,5,6,9] (b+1) (λr s d v h wr=>s=U G 0 0/\d=Vb Bf/\∃(s:Nat)(c:List FG),h=I J s/\s<=b+1/\r=b+1-s/\(Z c)<=Q/\su w v c wr/\(∀r,kH j S (k.map (·.R)) Q b s (c.map (·.F)) r->kH j S (k.map (·.R)) Q b 0 [] r))
 exact⟨rfl,rfl,0,[],rfl,O,O,oS,f,λr h=>h⟩
 case round=>
  clear f;obtain⟨rfl,rfl,s,c,rfl,B,x,e,V,d⟩:=hrel;obtain⟨A,c6,rfl⟩:=aF V.bV.row;have f:=H V;have v:=H d;clear V d
  by_cases l:s<=b
  .have p:(s:Int)<=b:=O;go_wp2_with fail;refine aiR w o k j rv pv tv gs S q Q s W _ c e wr f ?_ ?_
   .intro y V T;intros;rename_i i n d;obtain⟨z,c2,rfl⟩:=aF i.bV.row;have m:=H i;have g:=H (λr (h:kH j S (k.map (·.R)) Q b (s+1) (V.map (·.F)) r)=>v r (kH.next l d h));clear i d f v;go_wp2;go_roundg(b+1-(s+1));exact⟨rfl,rfl,s+1,V,oN,O,rfl,n,m,g⟩;omega
   intro y T;intros;rename_i V d;have i:=H V;have g:=H (v _ (kH.fails l d));clear V d f v;apply u
   .exact i
   exact g
  have p:¬((s:Int)<=b):=O
  have g:=H (v _ (kH.lE O));go_wp2_with fail;apply t
  .exact f
  .exact e
  exact g
def aiP(w o B c D A E z S)(d:sw w o B c D A E z S)(x:∀i,i<Z c->S i<=1000000)(Q:∀y u8 g b e u16 f j h k l m n p q r s t u v,Below (F (X w)) w y->a (.exit 0) ⟨List.toArray (Vp (P (C o 0 G))::c1::c2::c3::c4::c5::c6::I J (jQ S (Z c))::u8::c9::ed::eM::eN::g::b::e::u16::f::j::h::k::l::m::n::p::q::r::s::t::u::v::cy::cz::cC::cD::cE::cK::cL::cM::cQ::cR::cS::cT::cU::cV::cW::cX::cY::cZ::da::cN::cO::de::dh::cG::[]),[]⟩ y):Code.wp prog (Code.loop (Pf 0)) a ⟨List.toArray (Vp (P (C o 0 G))::c1::c2::c3::c4::c5::c6::I J 0::I J 0::c9::ed::eM::eN::et::eu::dv::dy::eh::dn::cJ::cF::bX::bY::bZ::b7::b8::cc::cd::cg::ck::cm::cy::cz::cC::cD::cE::cK::cL::cM::cQ::cR::cS::cT::cU::cV::cW::cX::cY::cZ::da::cN::cO::de::dh::cG::[]),[]⟩ w:=by
 conv=>arg 2;arg 1;whnf
 have g:=ej d.prog.oE;unfold maxLen at g;have k:=H d;have m:=H Q;have l:=H x;clear d Q x
 go_loopg [7,8] (Z c) (λx d Q wr=>∃(i:Nat),Q=I J i/\i<=Z c/\x=Z c-i/\d=I J (jQ S i)/\Below (F (X w)) w wr)
 exact⟨0,rfl,O,O,rfl,aZ _ _⟩
 case round=>
  obtain⟨i,rfl,_,_,rfl,d⟩:=hrel;have Q:=k.prog.kept ((ak.refl [] _).bC d) oS;have b:=k.sf.kept ((ak.refl [] _).bC d);have c3:=Q.c3;have q:=Q.lt;have n:=b.sz;have h:=H d
  by_cases e:i<Z c
  .have f:(i:Int)<Z c:=O;have x:=b.cell i e;have p:=Pj (S:=S) (m:=1000000) i (λj r=>l j O);have j:=ag l i e;clear Q b d;go_wp2;go_roundg(Z c-(i+1));exact⟨i+1,oN,O,rfl,by rw[jQ];go_num,h⟩;omega
  have f:¬((i:Int)<Z c):=O
  have j:i=Z c:=O
  subst j;clear Q b d;go_wp2_with fail;apply m;exact h
inductive DZ (w:W8)(ps:P9)(S:Nat->Nat)(rs:List bg)(limit:Nat)(w':W8):V9->V9->Prop
 |yes {v:V9} {fs:List FG}:su w v fs w'->Z fs<=limit->kH ps S rs limit (jQ S (Z ps)) 0 [] (P (fs.map (·.F)))->DZ w ps S rs limit w' v (Vb Bt)
 |no:Below (F (X w)) w w'->kH ps S rs limit (jQ S (Z ps)) 0 [] G->DZ w ps S rs limit w' (U G 0 0) (Vb Bf)
def aci(w:W8)(ps:P9)(S:Nat->Nat)(rs:List bg)(limit:Nat)(e:Ending)(w':W8):Prop:=
 ∃v b,e=Vr (Vt #[v,b])/\DZ w ps S rs limit w' v b
def Pg(w o c b m l n h S)(f:sw w o c b m l n h S)(k:∀i,i<Z b->S i<=1000000)(a:Nat)(d:a<=50):Calls prog 138 #[Vp (P (C o 0 G)),I J a] w (aci w b S (c.map (·.R)) a):=by
 have q:=H f;have s:=H k;clear f k;go_in;go_wp2_with fail;refine aiP w o c b m l n h S q s ?_;intro u;intros;rename_i i;have f:=H (show su w (U G 0 0) [] u from ⟨i,⟨dm _ _ _ _,oS⟩,oS⟩);clear i;have k:=Pj (S:=S) (m:=1000000) (Z b) s;generalize i:jQ S (Z b)=e at*;have r:=H i;clear i;go_wp2_with fail;refine aiQ w o c b m l n h S q a e d k u f ?_ ?_
 .intro y x p;intros;rename_i j t i;obtain⟨v,c6,rfl⟩:=aF j.bV.row;have g:=H (show DZ w b S (c.map (·.R)) a p (U v (Z x) c6) (Vb Bt) from .yes j t (by rw[ag r];exact i));clear j t i f;go_wp2
  go_ret2
  exact⟨_,_,rfl,g⟩
 intro y p;intros;rename_i j i;have g:=H (show DZ w b S (c.map (·.R)) a p (U G 0 0) (Vb Bf) from .no j (by rw[ag r];exact i));clear j i f
 go_ret2
 exact⟨_,_,rfl,g⟩
open Go.Maps
variable {c0 c7 dz dA dB dC dD dE dF dG dH dO dP dQ dR ei ev ew ey ez eP eQ eR eS eT eU eV eA eB dW dX dY eC eD eE eF eG eH eI eJ eW eX eY eZ e8 e9 fa fi ee dN:V9}
noncomputable def ZS(k:Nat):Code:=((f88.body.map sM).getD []).getD k .skip
def tA(zs:List B8):Prop:=wX (zs.map λt=>(t,0,0))
structure uY(A:List B8)(x:B8)(B:List B8):Prop where
 vW:tA (A++B)
 up:∀b∈B,fc x b=Bt
variable {a b:List B8}
def uY.XU{x}(h:uY a x b):uX ((a++x::b).map λt=>((t,0,0):nE)) (a.map λt=>(t,0,0)) (x,0,0) (b.map λt=>(t,0,0)):=
 ⟨oS,by have:=h.vW;unfold tA at this;simpa using this,λB A=>by
  obtain⟨t,B,rfl⟩:=aU.1 A
  exact h.up t B⟩
def uY.af3{x}(h:uY [] x a):tA (x::a):=h.XU.done (λb B e=>by simp at e)
variable {c:B8}
def uY.af4{x}(h:uY (a++[c]) x b)(B:fc x c=Bf):tA (a++c::x::b):=by
 have:=h.XU.done (λA d e=>by
  rw[fg]at e;have A:=(LM e rfl).2;simp at A
  rw[<-A];exact B)
 unfold tA;simpa using this
def uY.down{x}(h:uY (a++[c]) x b)(d:fc x c=Bt):uY a x (c::b):=
 ⟨by have:=h.vW;simpa using this,λA B=>by rcases bS.1 B with rfl|B;exact d;exact h.up A B⟩
structure tD(w:W8)(base:Nat)(v:V9)(n:Nat)(zs:List B8)(wr:W8):Prop where
 kept:ak v.ownBlock.toList w wr
 row:Ow wr base 9 1 v n (zs.map Y)
variable {d e:Nat}{f g:W8}
def tD.drewN{v}(h:tD f d v e b g)(k):tD f d v e b (g.drewN k):=⟨⟨h.kept.os,h.kept.tape,h.kept.output,h.kept.size,h.kept.block⟩,h.row⟩
def tD.swap{n A m x}(h:tD f d (U (P (C e 0 G)) n A) n (a++c::x::b) g)(w:Z a=m):tD f d (U (P (C e 0 G)) n A) n (a++x::c::b) (Sc (Sc g (C e (m+1) G) (Y c)) (C e m G) (Y x)):=by subst w;refine⟨(h.kept.setCell (by simp[Value.ownBlock]) _).setCell (by simp[Value.ownBlock]) _,?_⟩;have:=lI (lI h.row (Z a+1) (Y c)) (Z a) (Y x);rw[show((List.map Y (a++c::x::b)).set (Z a+1) (Y c)).set (Z a) (Y x)=(a++x::c::b).map Y by simp]at this;exact this
def akP(w b l n c)(agR:n<=1000)(k y r)(A:Z k=r)(hn:n=r+1)(B:tA k)(p:tD w b (U l n c) n (k++[y]) w){Q} (x:∀h w2 v u16 W a d e L E f t o g N K z u q i M m R D S T V u92 u93 u94 u95 u96 u97 u98 u99 j s,tD w b (U l n c) n h w2->tA h->h.Perm (k++[y])->Q (.exit 2) ⟨List.toArray (c0::c1::c2::c3::c4::c5::c6::c7::c8::c9::ed::U l n c::eN::et::eu::v::u16::eh::dn::cJ::cF::bX::bY::bZ::b7::b8::cc::cd::cg::ck::cm::cy::cz::cC::cD::cE::cK::cL::cM::cQ::cR::cS::cT::cU::cV::cW::cX::cY::cZ::da::cN::cO::de::dh::cG::dz::dA::dB::dC::dD::dE::dF::dG::dH::dO::dP::dQ::dR::ei::W::a::d::e::L::E::f::t::o::g::N::K::z::u::q::i::M::m::R::D::S::T::V::u92::u93::u94::u95::u96::u97::u98::u99::j::s::dN::[]),[]⟩ w2):Code.wp prog (Code.loop (ZS 1)) Q ⟨List.toArray (c0::c1::c2::c3::c4::c5::c6::c7::c8::c9::ed::U l n c::eN::et::eu::I J r::dy::eh::dn::cJ::cF::bX::bY::bZ::b7::b8::cc::cd::cg::ck::cm::cy::cz::cC::cD::cE::cK::cL::cM::cQ::cR::cS::cT::cU::cV::cW::cX::cY::cZ::da::cN::cO::de::dh::cG::dz::dA::dB::dC::dD::dE::dF::dG::dH::dO::dP::dQ::dR::ei::ev::ew::ey::ez::eP::eQ::eR::eS::eT::eU::eV::eA::eB::dW::dX::dY::eC::eD::eE::eF::eG::eH::eI::eJ::eW::eX::eY::eZ::e8::e9::fa::fi::ee::dN::[]),[]⟩ w:=by
 conv=>arg 2;arg 1;whnf
 have h:=H p;have S:=H x;have s:=H A;have j:=H B;have EM:r<n:=O
 clear p x A B hn
 go_loopg [15] r (λv W wr=>∃(A:List B8)(x:B8)(B:List B8),v=Z A/\W=I J (Z A)/\(Z A)<=r/\tD w b (U l n c) n (A++x::B) wr/\uY A x B/\(A++x::B).Perm (k++[y]))
 exact⟨k,y,[],s.symm,by rw[ag s],wR s,h,⟨by rw[kO];exact j,oS⟩,DL _⟩
 case round=>
  clear h j s;obtain⟨A,x,B,v,rfl,s,p,W,j⟩:=hrel;rcases Bz A with e|⟨d,a,e⟩
  .subst e;have h:=H (show tD w b (U l n c) n (x::B) wr from p);have L:=H W.af3;have E:=H (show(x::B).Perm (k++[y]) from j);have f:decide ((0:Int)<((([]:List B8).length:Nat):Int))=false:=oD;clear p W j;go_wp2;go_quiet(fail);go_wp2_with fail;apply S
   .exact(h).drewN _
   .exact L
   exact E
  rw[Bw]at e;subst e;have f:tD w b (U l n c) n (d++a::x::B) wr:=by simpa using p
  have t:(d++a::x::B).Perm (k++[y]):=by simpa using j
  have o:(d++[a]).length=Z d+1:=oS
  rw[o];rw[o]at v s;obtain⟨g,_,hv,_,_,_,N⟩:=rZ f.row O;injection hv with K q2 z
  subst K z;have K:=N (Z d+1) O;have z:=N (Z d) O;have V:(List.map Y (d++a::x::B))[Z d+1]?=P (Y x):=oS
  have T:(List.map Y (d++a::x::B))[Z d]?=P (Y a):=oS
  rw[V]at K;rw[T]at z;have u:=CV f.row;have q:=DU wr _ z;simp only at q;have h:=H f;have i:=H W;have E:=H t;have M:(Z d:Nat)<n:=O
  obtain⟨m,R⟩:∃m,Z d=m:=⟨_,rfl⟩;rw[R]at z K v s M⊢;have D:=H R;have e:((m+1:Nat):Int)=(m:Int)+1:=O
  rw[e];clear e p f W j t o N V T R;have T:IntKind.i64.wrap (m:Int)=m:=abz m O;have V:IntKind.i64.wrap ((m:Int)+1-1)=m:=by rw[Int.add_sub_cancel];exact T
  have e:(m:Int)+1<n:=O
  have i2:(m:Int)<n:=O
  have i3:(0:Int)<(m:Int)+1:=O
  have i4:(0:Int)<=(m:Int)+1:=O
  cases o:Op.bytesLess x.toList a.toList with
  |false=>
   have L:=H (i.af4 o);go_wp2;go_quiet(fail);go_wp2_with fail;apply S
   .exact(h).drewN _
   .exact L
   exact E
  |true=>have R:=H (i.down o);go_wp2;go_quiet(fail);have t:=H (h.drewN nq);have N:(wr.drewN nq).cell? (C g m G)=P (Y a):=z;have f:(wr.drewN nq).cell? (C g (m+1) G)=P (Y x):=K;have p:∀j,(wr.drewN nq).frozen? (C g j G)=false:=u;have j:g<(wr.drewN nq).heap.size:=q;clear z K u q h;generalize wr.drewN nq=W at*;have h:¬m=m+1:=O;have q:¬m+1=m:=O;go_wp2;go_roundg m;exact⟨d,x,a::B,D.symm,by rw[ag D],by rw[ag D];omega,t.swap D,R,(S3 d (List.Perm.swap a x B)).trans E⟩;omega
def iW(e x:bJ):Prop:=∀v y,fQ e v=P y->fQ x v=P y
def ny(e:bJ)(a:du):Prop:=∀t∈a.ts,t.1=Bt->∃x,fQ e t.2=P x
def iW.refl(e):iW e e:=λ_ _ h=>h
variable {a e:bJ}
def iW.trans{c}(h:iW a e)(k:iW e c):iW a c:=λv y d=>k v y (h v y d)
def iW.nil(e):iW [] e:=λv y h=>by cases h
variable {g:tw}
def iW.kr{x:bJ}(h:iW e x)(b:g.1=Bt->∃y,fQ e g.2=P y):kr x g=kr e g:=by
 unfold Go.Proofs.YtldkpahaocjdpaaGreat.kr
 split
 .rename_i c;obtain⟨y,a⟩:=b c;unfold nj;rw[h _ _ a,a]
 rfl
variable {b:du}
def iW.fill{x}(h:iW e x)(a:ny e b):bM x b=bM e b:=
 zP rfl (uh λt c=>h.kr (a t c))
def iW.Uy{x}(h:iW e x)(a:ny e b):ny x b:=λt c d=>let ⟨y,hy⟩:=a t c d;⟨y,h _ _ hy⟩
def akl{n}(h:px e g n=P a):iW e a/\kr a g=n/\(g.1=Bt->∃x,fQ a g.2=P x):=by
 unfold px at h
 by_cases b:g.1=Bt
 .rw[aD b]at h;unfold xG at h
  cases c:fQ e g.2 with
  |none=>
   rw[c]at h
   cases h
   have d:fQ (e++[(g.2,n)]) g.2=P n:=(by rw[CW,c];simp);refine⟨λv x f=>by rw[CW,f],?_,λ_=>⟨n,d⟩⟩;unfold kr nj;rw[aD b,d];rfl
  |some x=>
   rw[c]at h;simp only at h
   split at h
   .rename_i v
    cases h
    refine⟨iW.refl _,?_,λ_=>⟨x,c⟩⟩;unfold kr nj;rw[aD b,c];exact kJ.1 v
   cases h
 rw[aB b]at h
 split at h
 .rename_i v
  cases h
  refine⟨iW.refl _,?_,λc=>absurd c b⟩;unfold kr;rw[aB b];exact kJ.1 v
 cases h
def akm{x}(c:iW e x)(t:g.1=Bt->∃y,fQ x g.2=P y):∃b,px e g (kr x g)=P b/\iW b x:=by
 unfold px kr
 by_cases b:g.1=Bt
 .obtain⟨y,d⟩:=t b;rw[aD b,aD b];unfold nj xG;rw[d];simp only[yp]
  cases h:fQ e g.2 with
  |none=>
   refine⟨_,rfl,λv z a=>?_⟩;rw[CW]at a
   cases z:fQ e v with
   |some q=>rw[z]at a;cases a;exact c _ _ z
   |none=>
    rw[z]at a;simp only at a
    split at a
    .rename_i f
     cases a
     rw[<-kJ.1 f];exact d
    cases a
  |some q=>
   have:=c _ _ h;rw[d]at this
   cases this
   exact⟨e,oS,c⟩
 rw[aB b,aB b];exact⟨e,oS,c⟩
def ZC:∀(a:List tw)(c:List B8)(e u:bJ),Z a=Z c->lf e a c=P u->iW e u/\a.map (kr u)=c/\∀t∈a,t.1=Bt->∃x,fQ u t.2=P x
 | [],[],e,u,_,h=>by rw[lf]at h;cases h;exact⟨iW.refl _,rfl,oS⟩
 | [],_::_,_,_,b,_=>by cases b
 |_::_,[],_,_,b,_=>by cases b
 |t::a,n::c,e,u,b,h=>by
  rw[lf]at h;simp only[GQ,G2]at h
  cases f:px e t n with
  |none=>rw[f]at h;cases h
  |some l=>
   rw[f]at h;simp only at h;obtain⟨m,i,g⟩:=akl f;obtain⟨d,j,k⟩:=ZC a c l u (oU b) h;refine⟨m.trans d,?_,λu c a=>?_⟩
   .rw[ir,j,d.kr g,i]
   rcases bS.1 c with rfl|c
   .obtain⟨x,o⟩:=g a;exact⟨x,d _ _ o⟩
   exact k u c a
def ZD{x:bJ}:∀(u:List tw)(e:bJ),iW e x->(∀t∈u,t.1=Bt->∃y,fQ x t.2=P y)->∃y,lf e u (u.map (kr x))=P y/\iW y x
 | [],e,h,_=>⟨e,rfl,h⟩
 |t::u,e,h,hd=>by
  obtain⟨y,c,a⟩:=akm h (hd t bz);obtain⟨t,d,b⟩:=ZD u y a (λu f=>hd u (bG _ f));refine⟨t,?_,b⟩;rw[lf];simp only[ir,GQ,G2];rw[c];exact d
def F8(a:du)(t:Th):Prop:=a.p=t.1->Z a.ts=t.2.length
variable {c:P9}{h:Th}
def Ng(d:qQ c b)(f:il c h):F8 b h:=λe=>by
 have a:=d.bn;rw[e,f.bn]at a;exact(cI a).symm
def PN(j:F8 b h)(t:dZ e b h=P a):iW e a/\bM a b=h/\ny a b:=by
 unfold dZ at t
 split at t
 .rename_i c;have i:=kJ.1 c;obtain⟨g,f,d⟩:=ZC b.ts h.2 e a (j i) t;exact⟨g,zP i f,d⟩
 cases t
def ZE{x}(g:iW e x)(f:ny x b):∃a,dZ e b (bM x b)=P a/\iW a x:=by obtain⟨a,c,d⟩:=ZD b.ts e g f;refine⟨a,?_,d⟩;unfold dZ;rw[aD (by simp[bM])];exact c
variable {d:List (Th×Nat)}
def FK :∀(n:List du)(e x:bJ),(∀a∈n,∀p∈d,F8 a p.1)->x∈gn d n e->iW e x/\∀a∈n,ny x a/\∃n,(bM x a,n)∈d
 | [],e,x,_,h=>by
  rw[gn]at h;rw[bu.1 h];exact⟨iW.refl _,oS⟩
 |a::r,e,x,hf,h=>by
  rw[gn]at h;obtain⟨p,f,h⟩:=gh.1 h
  cases c:dZ e a p.1 with
  |none=>rw[c]at h;simp at h
  |some j=>
   rw[c]at h;simp only at h;obtain⟨k,g,K⟩:=PN (hf a bz p f) c;obtain⟨b,i⟩:=FK r j x (λy n=>hf y (bG _ n)) h;refine⟨k.trans b,λy n=>?_⟩;rcases bS.1 n with rfl|n
   .exact⟨b.Uy K,p.2,by rw[b.fill K,g];exact f⟩
   exact i y n
def PQ{x:bJ}:∀(K:List du)(e:bJ),iW e x->(∀a∈K,ny x a/\∃n,(bM x a,n)∈d)->∃y∈gn d K e,iW y x
 | [],e,h,_=>⟨e,by rw[gn];exact bu.2 rfl,h⟩
 |a::r,e,h,hd=>by
  obtain⟨K,n,j⟩:=hd a bz;obtain⟨a,g,c⟩:=ZE h K;obtain⟨b,i,f⟩:=PQ r a c (λy k=>hd y (bG _ k));refine⟨b,?_,f⟩;rw[gn];refine gh.2 ⟨_,j,?_⟩;rw[g];exact i
def iO(N:List (Th×Nat))(pos:List du)(e:bJ):List Nat:=pos.map λa=>(bK N (bM e a)).getD 0
def uO(N:List (Th×Nat))(r:PR)(t:Th):List (List Nat):=match dZ [] (cq r) t with
 |none=>[]
 |some s=>(jn N (jj r.bs) (aY r.bs) s).map (iO N (aY r.bs))
variable {i:List du}
def Qo{N x}(h:iW e x)(d:∀a∈i,ny e a):iO N i x=iO N i e:=
 uh λa c=>by rw[h.fill (d a c)]
def Uw{x}(h:iW e x)(g:∀a∈i,ny e a):nJ d i x=nJ d i e:=by
 unfold nJ;have:∀l:List du,(∀a∈l,a∈i)->(l.any λa=>(bK d (bM x a)).isSome)=l.any λa=>(bK d (bM e a)).isSome:=by
  intro l
  induction l with
  |nil=>intro _;rfl
  |cons a r c=>intro K;rw[Bv,Bv,c (λb f=>K b (bG _ f)),h.fill (g a (K a bz))]
 exact this i (λ_ h=>h)
variable {f:PR}
def kD.M8(i:kD c f)(h:∀a∈aY f.bs,ny e a):∀a∈jj f.bs,ny e a:=λa r t j d=>by
 obtain⟨b,g,k⟩:=i.aae a r t j d;exact h b g t k d
def kD.Uz(r:kD c f)(h:∀a∈aY f.bs,ny e a):ny e (cq f):=λt g i=>by
 obtain⟨b,d,a⟩:=r.QA t g i;exact h b d t a i
def alp{N}(v:∀p∈N,il c p.1)(i:kD c f)(w:il c h)(l):l∈uO N f h↔∃e∈jn N (jj f.bs) (aY f.bs) [],bM e (cq f)=h/\iO N (aY f.bs) e=l:=by
 have b:∀a∈aY f.bs,∀p∈N,F8 a p.1:=λa n p t=>Ng (i.pos a n) (v p t)
 constructor
 .intro t;unfold uO at t
  cases j:dZ [] (cq f) h with
  |none=>rw[j]at t;cases t
  |some s=>
   rw[j]at t;obtain⟨x,k,rfl⟩:=aU.1 t;obtain⟨k,p⟩:=gI.1 k;obtain⟨-,o,q⟩:=PN (Ng i.hd w) j;obtain⟨u,m⟩:=FK _ _ _ b k;obtain⟨e,g,r⟩:=PQ (aY f.bs) [] (iW.nil x) m;have d:∀a∈aY f.bs,ny e a:=λa n=>((FK _ _ _ b g).2 a n).1
   refine⟨e,gI.2 ⟨g,?_⟩,?_,(Qo r d).symm⟩
   .rw[<-Uw r (i.M8 d)];exact p
   rw[<-r.fill (i.Uz d),u.fill q,o]
 rintro⟨e,g,q,rfl⟩;obtain⟨g,p⟩:=gI.1 g;obtain⟨-,m⟩:=FK _ _ _ b g;have t:∀a∈aY f.bs,ny e a:=λa n=>(m a n).1
 obtain⟨s,j,o⟩:=ZE (iW.nil e) (i.Uz t);rw[q]at j;obtain⟨x,k,r⟩:=PQ (aY f.bs) s o m;have d:∀a∈aY f.bs,ny x a:=λa n=>((FK _ _ _ b k).2 a n).1
 unfold uO;rw[j];refine aU.2 ⟨x,gI.2 ⟨k,?_⟩,(Qo r d).symm⟩;rw[<-Uw r (i.M8 d)];exact p
end
section
structure qu(ps:P9)(rs:List bg)(rp:List PR):Prop where
 jq:∀R∈rs,∃r∈rp,nD R r
 TX:∀r∈rp,∃R∈rs,nD R r
 dI:∀r∈rp,kD ps r
variable {b:P9}{a g:List aP}{c f j:Nat}{h:aP}
def B2{S:Nat->Nat}:∀(y:List bg)(i:Nat),h∈im b S a c f y i->h.h=f/\h.text=ep (bp h.aH)/\∃R∈y,S (aL b R.ay.ax).toNat=c/\∃y∈lX R a,bp h.aH=bM y.1 (pa R.ay)
 | [],_,n=>by simp[im]at n
 |R::r,i,n=>by
  rw[im]at n;rcases aS.1 n with n|n
  .split at n
   .rename_i l;obtain⟨y,s,rfl⟩:=aU.1 n;exact⟨rfl,sU _,R,bz,l,y,s,uS _ _⟩
   simp at n
  obtain⟨R,l,Q,d,s⟩:=B2 r (i+1) n;exact⟨R,l,Q,bG _ d,s⟩
def T8{S:Nat->Nat}{n:Nat}{R:bg}{y:kR}:∀(h:List bg)(i:Nat),R∈h->S (aL b R.ay.ax).toNat=c->y∈lX R a->∃f∈im b S a c n h i,bp f.aH=bM y.1 (pa R.ay)
 | [],_,h,_,_=>by cases h
 |Q::r,i,h,hs,hy=>by
  rw[im];rcases bS.1 h with rfl|h
  .refine⟨qA R c n i y,aS.2 (.inl ?_),uS _ _⟩;rw[aD hs];exact aU.2 ⟨y,hy,rfl⟩
  obtain⟨f,l,e⟩:=T8 (n:=n) r (i+1) h hs hy;exact⟨f,aS.2 (.inr l),e⟩
variable {i:List (Th×Nat)}{d:List PR}{e:List bg}
def Zc(m:ia b i a)(h:qu b e d){Sp S}(o:∀R∈e,Sp R.ay.ax=S (aL b R.ay.ax).toNat)(s n t):qn (d.filter (mx Sp s)) i t↔bK i t=G/\∃f∈im b S a s n e 0,bp f.aH=t:=by
 unfold qn;refine Mf λ_=>⟨?_,?_⟩
 .rintro⟨r,K,p,q,rfl⟩;obtain⟨K,c⟩:=gI.1 K;obtain⟨R,g,hrel⟩:=h.TX r K;obtain⟨y,k,rfl⟩:=(C4 m hrel (h.dI r K) p).2 q;unfold mx at c;have j:S (aL b R.ay.ax).toNat=s:=by
   rw[<-o R g];rw[hrel.eq]at c;simpa[fm]using c
  obtain⟨f,l,p⟩:=T8 (n:=n) e 0 g j k;exact⟨f,l,by rw[p,hrel.hd]⟩
 rintro⟨f,l,rfl⟩;obtain⟨_,_,R,g,c,y,k,p⟩:=B2 e 0 l;obtain⟨r,K,hrel⟩:=h.jq R g;refine⟨r,gI.2 ⟨K,?_⟩,y.1,(C4 m hrel (h.dI r K) y.1).1 ⟨y,k,rfl⟩,by rw[p,hrel.hd]⟩;unfold mx;rw[hrel.eq]
 show(Sp R.ay.ax==s)=Bt
 rw[o R g,c];simp
def T7(g:ia b i a)(K:qu b e d){S}(j:h∈im b S a c f e 0):il b (bp h.aH):=by obtain⟨_,_,R,s,_,y,k,m⟩:=B2 e 0 j;obtain⟨r,n,hrel⟩:=K.jq R s;have l:=(C4 g hrel (K.dI r n) y.1).1 ⟨y,k,rfl⟩;rw[m,<-hrel.hd];exact((K.dI r n).qb g.ti (gI.1 l).1).hd
structure Eh(l a out:List aP):Prop where
 nd:(out.map (·.text)).Nodup
 mem:∀f∈out,f∈a/\dp l f.text<0
def ad0{j}(f:Eh a g j)(n:h∈g):Eh a g (pc a j h):=by
 unfold pc
 split
 .rename_i c;refine⟨?_,λd i=>?_⟩
  .rw[fg,pF];refine⟨f.nd,oS,λl m b k e=>?_⟩;obtain⟨d,i,rfl⟩:=aU.1 m;rw[ir,vc,bu]at k;exact(yL j h.text).1 c.2 d i (by rw[e,k])
  rcases aS.1 i with i|i
  .exact f.mem d i
  rw[bu.1 i];exact⟨n,c.1⟩
 exact f
def aaL{l C:List aP}:∀(a g:List aP),(∀f∈a,f∈C)->Eh l C g->Eh l C (eL l a g).1
 | [],_,_,h=>h
 |f::r,g,hc,h=>by
  rw[eL]
  split
  .exact h
  exact aaL r _ (λg a=>hc g (bG _ a)) (ad0 h (hc f bz))
def QT :∀(h c:List aP),(eL a h c).2=Bt->50<Z a+(eL a h c).1.length
 | [],_,h=>by cases h
 |f::r,c,h=>by
  rw[eL]at h⊢
  split at h
  .rename_i c;rw[aD c];exact c
  rename_i c;rw[aB c];exact QT r _ h
def Tz{l}(f:l∈a):l∈pc g a h:=by
 unfold pc
 split
 .exact aS.2 (.inl f)
 exact f
def aaM :∀(b l:List aP),h∈l->h∈(eL a b l).1
 | [],_,g=>g
 |f::r,l,g=>by
  rw[eL]
  split
  .exact g
  exact aaM r _ (Tz g)
def Ty{l out f}(h:dp l f.text<0):∃g∈pc l out f,g.text=f.text:=by
 unfold pc
 split
 .exact⟨f,aS.2 (.inr (bu.2 rfl)),rfl⟩
 rename_i c;have:¬dp out f.text<0:=λg=>c ⟨h,g⟩
 rw[yL]at this;simpa using this
def aaI :∀(b l:List aP),(eL a b l).2=Bf->∀f∈b,dp a f.text<0->∃g∈(eL a b l).1,g.text=f.text
 | [],_,_,f,b,_=>by cases b
 |x::r,l,h,f,b,hn=>by
  rw[eL]at h⊢
  split at h
  .cases h
  rename_i c;rw[aB c];rcases bS.1 b with rfl|b
  .obtain⟨g,d,e⟩:=Ty (out:=l) hn;exact⟨g,aaM r _ d,e⟩
  exact aaI r _ h f b hn
structure acI(ps:P9)(S:Nat->Nat)(rs:List bg)(l:List aP)(s n:Nat)(out:List aP):Prop where
 tk:Eh l (im ps S l s n rs 0) out
 all:Z l+Z out<=50->∀f∈im ps S l s n rs 0,dp l f.text<0->∃g∈out,g.text=f.text
def aa0{S}(h:uq b S e a c f g):acI b S e a c f g:=by
 have l:=aaL (l:=a) (C:=im b S a c f e 0) (im b S a c f e 0) [] (λ_ h=>h) ⟨oS,oS⟩;rcases h with⟨i,rfl⟩|⟨i,_,k⟩
 .exact⟨l,λs=>by have:=QT _ _ i;omega⟩
 refine⟨⟨(k.map _).nodup_iff.2 l.nd,λs j=>l.mem s (k.mem_iff.1 j)⟩,λ_ s j o=>?_⟩;obtain⟨n,m,d⟩:=aaI _ _ i s j o;exact⟨n,k.mem_iff.2 m,d⟩
structure Tu(ps:P9)(rp:List PR)(K:List (Th×Nat))(l:List aP)(n:Nat)(out:List aP):Prop where
 nd:(out.map λf=>bp f.aH).Nodup
 new:∀f∈out,qn rp K (bp f.aH)
 h:∀f∈out,f.h=n
 dI:∀f∈out,il ps (bp f.aH)
 text:∀f∈out,f.text=ep (bp f.aH)
 all:Z l+Z out<=50->∀t,qn rp K t->∃f∈out,bp f.aH=t
def Qm(m:ia b i g)(q:qu b e d){Sp S}(v:∀R∈e,Sp R.ay.ax=S (aL b R.ay.ax).toNat)(h:uq b S e g c f a):Tu b (d.filter (mx Sp c)) i g f a:=by
 have w:=aa0 h;have u:∀n∈a,il b (bp n.aH):=λn R=>T7 m q (w.tk.mem n R).1
 have r:∀n∈a,n.text=ep (bp n.aH):=λn R=>(B2 e 0 (w.tk.mem n R).1).2.1
 have K:∀t:Th,il b t->(dp g (ep t)<0↔bK i t=G):=λt h=>by
  rw[m.Aa h]
  cases bK i t<;>simp
 refine⟨?_,λn R=>?_,λn R=>(B2 e 0 (w.tk.mem n R).1).1,u,r,λx t o=>?_⟩
 .have j:=w.tk.nd;have k:a.map (·.text)=(a.map λn=>bp n.aH).map ep:=by
   rw[km];exact uh λn R=>r n R
  rw[k]at j;unfold List.Nodup at j⊢;rw[wO]at j;exact j.imp λp k=>p (by rw[k])
 .rw[Zc m q v c f];refine⟨?_,n,(w.tk.mem n R).1,rfl⟩;have:=(w.tk.mem n R).2;rw[r n R,K _ (u n R)]at this;exact this
 rw[Zc m q v c f]at o;obtain⟨j,n,R,rfl⟩:=o;have o:=T7 m q R;have p:=(B2 e 0 R).2.1;obtain⟨l,s,k⟩:=w.all x n R (by rw[p,K _ o];exact j);refine⟨l,s,zq (u l s).w o.w ?_⟩;rw[<-r l s,k,p]
def ia.jP{L}(k:ia b i a)(K:Tu b d i a c g)(o:Z a+Z g<=50)(r:(L.map (·.1)).Nodup)(u:∀p∈L,p.2=c)(v:∀t,(∃m,(t,m)∈L)↔qn d i t):ia b (i++L) (a++g):=by
 refine⟨λt m=>?_,?_,?_,λf n=>?_,λf n=>?_⟩
 .rw[aS,k.mem t m]
  constructor
  .rintro(⟨f,n,h⟩|h)
   .exact⟨f,aS.2 (.inl n),h⟩
   obtain⟨f,n,e⟩:=K.all o t ((v t).1 ⟨m,h⟩);exact⟨f,aS.2 (.inr n),e,by rw[K.h f n];exact(u _ h).symm⟩
  rintro⟨f,n,e,h⟩;rcases aS.1 n with n|n
  .exact .inl ⟨f,n,e,h⟩
  obtain⟨_,l⟩:=(v t).2 (by rw[<-e];exact K.new f n);refine .inr ?_;have t:=u _ l;simp only at t;rw[<-h,K.h f n,<-t];exact l
 .rw[fg,pF];refine⟨k.Jm,r,λl h s o e=>?_⟩;obtain⟨p,j,rfl⟩:=aU.1 o;obtain⟨q,m,rfl⟩:=aU.1 h;have:=((v p.1).1 ⟨p.2,j⟩).1;rw[<-e]at this;exact vQ this q.2 m
 .rw[fg,pF];refine⟨k.zj,K.nd,λl h s o e=>?_⟩;obtain⟨f,n,rfl⟩:=aU.1 o;obtain⟨j,l,rfl⟩:=aU.1 h;have t:=(K.new f n).1;have h:=(k.look (bp f.aH)).2 ⟨j,l,e⟩;rw[t]at h
  cases h
 .rcases aS.1 n with n|n
  .exact k.dI f n
  exact K.dI f n
 rcases aS.1 n with n|n
 .exact k.text f n
 exact K.text f n
def Mr(ps:P9)(limit:Nat)(r:Option (List aP))(r':Option (List (Th×Nat))):Prop:=(r=G/\r'=G)\/∃l' K',r=P l'/\r'=P K'/\ia ps K' l'/\(Z l')<=limit
variable {k:Option (List aP)}
def MY(N:qu b e d){Sp S}(T:∀R∈e,Sp R.ay.ax=S (aL b R.ay.ax).toNat)(hl:c<=50)(h:oQ b S e c f j a k):∀K u,ia b K a->Z a<=c->vi (d.filter (mx Sp f)) c j K u->Mr b c k u:=by
 induction h with
 | @over j a R A w=>
  intro K u D i r;have s:=Qm D N T A;have l:R≠[]:=λW=>by rw[W]at w;simp at w;omega
  obtain⟨n,x⟩:=LO _ l
  cases r with
  |over L _ _ _=>exact .inl ⟨rfl,rfl⟩
  |done E=>exact absurd (s.new n x) (E _)
  | @jP _ _ L _ m V o v h5 M=>
   exfalso
   have:=Jr (R.map λn=>bp n.aH) (L.map (·.1)) s.nd (λt B=>by
    obtain⟨g,Q,rfl⟩:=aU.1 B;obtain⟨_,y⟩:=(v _).2 (s.new g Q)
    exact aU.2 ⟨_,y,rfl⟩)
   have y:=D.len;simp only[bF]at this;omega
 | @done j a A w=>
  intro K u D i r;have s:=Qm D N T A;have z:∀t,¬qn (d.filter (mx Sp f)) K t:=λt B=>by
   obtain⟨n,x,_⟩:=s.all oT t B
   cases x
  cases r with
  |over L m V o=>
   exfalso
   cases L with
   |nil=>have:=D.len;simp at o;omega
   |cons t q=>exact z t (V t bz)
  |done E=>exact .inr ⟨a,K,rfl,rfl,D,i⟩
  | @jP _ _ L _ m V o v h5 M=>
   exfalso
   obtain⟨p,r⟩:=LO _ m;exact z p.1 ((v p.1).1 ⟨p.2,r⟩)
 | @jP j a R k A l w z q=>
  intro K u D i r;have s:=Qm D N T A;have p:Z a+Z R<=50:=O
  obtain⟨n,x⟩:=LO _ l;have y:=D.len
  cases r with
  |over L m V o=>
   exfalso
   have:=Jr L (R.map λn=>bp n.aH) m (λt B=>by
    obtain⟨g,Q,W⟩:=s.all p t (V t B)
    exact aU.2 ⟨g,Q,W⟩)
   simp only[bF]at this;omega
  |done E=>exact absurd (s.new n x) (E _)
  | @jP _ _ L _ m V o v h5 M=>exact q (K++L) u (D.jP s p V o v) (by rw[br];exact w) M
def amQ(m:qu b e d){Sp S}(q:∀R∈e,Sp R.ay.ax=S (aL b R.ay.ax).toNat)(o:f<=50)(h:kH b S e f c j a k):∀K s,ia b K a->Z a<=f->qt d Sp f (c+1) j K s->Mr b f k s:=by
 induction h with
 | @lE j a u=>
  intro K s v i g
  cases g with
  |lE _=>exact .inr ⟨a,K,rfl,rfl,v,i⟩
  |fails r _=>omega
  |next r _ _=>omega
 | @fails j a u l=>
  intro K s v i g
  cases g with
  |lE r=>omega
  |fails _ R=>exact .inl ⟨rfl,rfl⟩
  |next _ R _=>rcases MY m q o l K _ v i R with⟨_,t⟩|⟨_,_,t,_⟩<;>cases t
 | @next j a A k u l _ z=>
  intro K s v i g
  cases g with
  |lE r=>omega
  |fails _ R=>rcases MY m q o l K _ v i R with⟨t,_⟩|⟨_,_,_,t,_⟩<;>cases t
  |next _ R y=>
   rcases MY m q o l K _ v i R with⟨t,_⟩|⟨_,_,w,x,n,p⟩
   .cases t
   obtain rfl:=cI w;obtain rfl:=cI x;exact z _ s n p y
end
section
section
open Go.RowKit Go.Maps
attribute [local go_sem ↓] tW tX wj tF pB qa p9 pY
attribute [local go_sem] Oper.semAt_some
attribute [local go_sem] ux xJ sT sR
structure Te(w:W8)(nb base:Nat)(r:PR)(N:List (Th×Nat))(t:Th):Prop where
 cH:l6 w base r
 m:bQ w nb N
 l3:Z r.bs<=3
 t4:∀x∈r.bs,x.1.ts.length<=4
 h4:Z r.R.ts<=4
 th:fY t
 neg:∀s,dZ [] (cq r) t=P s->∀e∈gn N (aY r.bs) s,∀x∈jj r.bs,fY (bM e x)
 pos:∀s,dZ [] (cq r) t=P s->∀e∈gn N (aY r.bs) s,∀x∈aY r.bs,fY (bM e x)
 jM:∀s,dZ [] (cq r) t=P s->iY (uN r.bs) s
 len:∀s,dZ [] (cq r) t=P s->∀e∈gn N (aY r.bs) s,Z e<=12
def acd(w:W8)(xH:List (List Nat))(e:Ending)(w':W8):Prop:=
 Below (F (X w)) w w'/\((xH=[]/\e=Vr (Vt #[U G 0 0,Vb Bf])) \/
  ∃(row:List Nat)(a:O8)(c:Nat),row∈xH/\(∀x∈xH,iq x row=Bf)/\e=Vr (Vt #[U a (Z row) c,Vb Bt])/\Ow w' (F (X w)) 3 1 (U a (Z row) c) (Z row) (jk row))
variable{a c d m:Nat}{e:Th}{b i k o:W8}
def bQ.Fv{L}(h:bQ b a L)(o:fY e){T}(r:prog.underlying T=P (.map 88 3)):(Instr.lookup T (.map (P a)) (cP e) Bf).run prog b=.ok (I J (((bK L e).getD 0:Nat):Int)) b:=by
 obtain⟨D,q,_,_,g,d,c⟩:=h;obtain⟨l,f⟩:=J9 o;obtain⟨_,_,w,u⟩:=q.lookup wg r (z:=I J 0) oK (zd:=.held (I J 0)) (zp:=[]) rfl f;have h:=Ac u
 cases k:bK L e with
 |some n=>obtain⟨j,i⟩:=d _ (rU k) l f;rw[i]at h;have h:=Bu h;subst h;exact w
 |none=>
  have j:Maps.has D l=false:=by
   cases s:Maps.has D l with
   |false=>rfl
   |true=>obtain⟨p,m,i⟩:=c l s;have t:=F3 (g p m) o i f;exact absurd (show(e,p.2)∈L by rw[<-t];exact m) (vQ k _)
  rw[Maps.atKey_of_not_has j]at h;have h:=Bu h;subst h;exact w
def aoj(n w):SeqStopsK Fence.wide n prog 218 #[] (λx:Empty=>x.elim) (λ_ _=>True) (λx=>x=[]) (λ_=>True) 1 w:=by intro l g d W e c a f x;have b:=H x;clear e c a f x;refine callsIn_wide.2 ?_;go_in;go_wp2;go_end0;exact⟨⟨_,rfl⟩,.inl ⟨[],rfl,b⟩⟩
structure oV(w:W8)(r:PR)(ah ab:O8)(ch cb nb:Nat)(t:Th)(lv:V9)(f:Bool)(wr:W8):Prop where
 rb:wr.heap[F (X w)]?=P (Vc #[Y r.R.pd,U ah (Z r.R.ts) ch,U ab (Z r.bs) cb] 123)
 tb:TV wr (F (X w)+1) t
 mb:wr.heap[F (X w)+1+1]?=P (Vc #[.map (P nb)] 82)
 lb:wr.heap[F (X w)+1+1+1]?=P (Vc #[lv] 24)
 fb:wr.heap[F (X w)+1+1+1+1]?=P (Vc #[Vb f] 4)
 k:Below (F (X w)) w wr
variable{l:Bool}{f g n:O8}{h:PR}{j:V9}
def oV.ai(w:oV b h f g d c a e j l k)(r:Below (F (X k)) k i):oV b h f g d c a e j l i:=
 ⟨(r.block _ (aM.1 w.rb).1).trans w.rb,w.tb.ai r,(r.block _ (aM.1 w.mb).1).trans w.mb,(r.block _ (aM.1 w.lb).1).trans w.lb,(r.block _ (aM.1 w.fb).1).trans w.fb,w.k.trans (r.mono w.k.size)⟩
def oV.grown(r:oV b h g f a c d e j l i){row}(w:i.grownBy k row)(o:∀wr,row=P wr->F (X b)+1+1+1+1<wr):oV b h g f a c d e j l k:=by
 have n:∀wr,wr<=F (X b)+1+1+1+1->k.heap[wr]?=i.heap[wr]?:=λwr m=>w.block wr (oF ((aM.1 r.fb).1)) (λt=>by have:=o wr t.symm;omega)
 exact⟨(n _ O).trans r.rb,(n _ O).trans r.tb,(n _ O).trans r.mb,(n _ O).trans r.lb,(n _ O).trans r.fb,⟨w.os.trans r.k.os,w.tape.trans r.k.tape,w.output.trans r.k.output,bf r.k.size w.size,λwr m=>(n wr O).trans (r.k.block wr m)⟩⟩
def oV.start(w r b a d c e t):oV w r b a d c e t (U G 0 0) Bf (Al (Al (Al (Al (Al w (Vc #[Y r.R.pd,U b (Z r.R.ts) d,U a (Z r.bs) c] 123)) (Vc (bP t).toArray 88)) (Vc #[.map (P e)] 82)) (Vc #[U G 0 0] 24)) (Vc #[Vb Bf] 4)):=by
 refine⟨?_,?_,?_,?_,?_,?_⟩
 .rw[aW _ _ _ oW,aW _ _ _ oW,aW _ _ _ oW,aW _ _ _ oS];exact aG w _
 .show _=_
  rw[aW _ _ _ oW,aW _ _ _ oW,aW _ _ _ oS];have:=aG (Al w (Vc #[Y r.R.pd,U b (Z r.R.ts) d,U a (Z r.bs) c] 123)) (Vc (bP t).toArray 88);simpa only[bL]using this
 .rw[aW _ _ _ oW,aW _ _ _ oS];have:=aG (Al (Al w (Vc #[Y r.R.pd,U b (Z r.R.ts) d,U a (Z r.bs) c] 123)) (Vc (bP t).toArray 88)) (Vc #[.map (P e)] 82);simpa only[bL]using this
 .rw[aW _ _ _ oS];have:=aG (Al (Al (Al w (Vc #[Y r.R.pd,U b (Z r.R.ts) d,U a (Z r.bs) c] 123)) (Vc (bP t).toArray 88)) (Vc #[.map (P e)] 82)) (Vc #[U G 0 0] 24);simpa only[bL]using this
 .have:=aG (Al (Al (Al (Al w (Vc #[Y r.R.pd,U b (Z r.R.ts) d,U a (Z r.bs) c] 123)) (Vc (bP t).toArray 88)) (Vc #[.map (P e)] 82)) (Vc #[U G 0 0] 24)) (Vc #[Vb Bf] 4);simpa only[bL]using this
 exact(((((aZ (F (X w)) w).alloc L9 _).alloc oS _).alloc oW _).alloc oW _).alloc oW _
structure Ly(W:W8)(rv:Nat->Nat)(n k:Nat)(wr:W8):Prop where
 row:gd wr (F (X W)) 3 n (λj=>I J ((if j<k then rv j else 0:Nat)))
 k:Below (F (X W)) W wr
def acb(N:List (Th×Nat))(r:PR)(B:Nat)(pre:List bJ)(lv:V9)(f:Bool)(W:W8):Prop:=
 (pre=[]/\lv=U G 0 0/\f=Bf)\/∃(row:List Nat)(a:O8)(c:Nat),lv=U a (Z row) c/\f=Bt/\(∃y∈pre,iO N (aY r.bs) y=row)/\(∀y∈pre,iq (iO N (aY r.bs) y) row=Bf)/\Ow W B 3 1 (U a (Z row) c) (Z row) (jk row)
def uf(w:W8)(r:PR)(ah ab:O8)(ch cb nb:Nat)(t:Th)(N:List (Th×Nat))(w1:W8)(pre:List bJ)(W:W8):Prop:=
 ∃(lv:V9)(f:Bool),oV w r ah ab ch cb nb t lv f W/\bU (λi=>i=F (X w)+1+1+1\/i=F (X w)+1+1+1+1) w1 W/\acb N r (F (X w1)) pre lv f W
def uf.grown{N w B}(r:uf b h f g a m c e N i w k){row}(n:k.grownBy B row)(j:∀A,row=P A->F (X i)<=A/\∃o,k.heap[A]?=P o/\o.isCells=Bf)(E:F (X b)+1+1+1+1<F (X i)):uf b h f g a m c e N i w B:=by
 obtain⟨D,l,y,z,o⟩:=r;refine⟨D,l,y.grown n (λA d=>by have:=(j A d).1;omega),z.grown n (λA d=>.inl (j A d).1),?_⟩;rcases o with o|⟨r,p,t,q,s,u,v,x⟩
 .exact .inl o
 exact .inr ⟨r,p,t,q,s,u,v,Zp x n (λA d=>(j A d).2)⟩
def oV.am9(w:oV b h f g a d c e j l i)(v):oV b h f g a d c e v Bt (Sc (Sc i (C (F (X b)+1+1+1) 0 G) v) (C (F (X b)+1+1+1+1) 0 G) (Vb Bt)):=by
 have r:∀wr,wr≠(F (X b))+1+1+1->wr≠(F (X b))+1+1+1+1->(Sc (Sc i (C (F (X b)+1+1+1) 0 G) v) (C (F (X b)+1+1+1+1) 0 G) (Vb Bt)).heap[wr]?=i.heap[wr]?:=λwr t k=>by
  rw[cx _ _ _ _ (oU k),cx _ _ _ _ (oU t)]
 refine⟨(r _ O O).trans w.rb,(r _ O O).trans w.tb,(r _ O O).trans w.mb,?_,?_,⟨w.k.os,w.k.tape,w.k.output,by simpa using w.k.size,λwr t=>(r wr O O).trans (w.k.block wr t)⟩⟩
 .rw[cx _ _ _ _ oS,vg i _ 0 _ _ (0,0) v w.lb];exact kn _ _ _ _ _ _ w.lb
 have wr:(Sc i (C (F (X b)+1+1+1) 0 G) v).heap[F (X b)+1+1+1+1]?=P (Vc #[Vb l] 4):=by rw[cx _ _ _ _ oS];exact w.fb
 rw[vg _ _ 0 _ _ (0,0) _ wr];exact kn _ _ _ _ _ _ wr
def ajJ{e wr f}(h:Ow b a e wr j m f)(k:c<a)(l:d<a)(u n):Ow (Sc (Sc b (C c 0 G) u) (C d 0 G) n) a e wr j m f:=
 gC h λg i=>by
  have:=(h.lt g i).1;rw[cx _ _ _ _ oT,cx _ _ _ _ oT]
def uf.put{w r j h m l q t N d W wr pre v f}(s:oV w r j h m l q t v f W)(e:bU (λi=>i=F (X w)+1+1+1\/i=F (X w)+1+1+1+1) d W)(k:Below (F (X W)) W wr)(u:F (X w)+1+1+1+1<F (X d)){x a c}(b:Ow wr (F (X d)) 3 1 (U a (iO N (aY r.bs) x).length c) (iO N (aY r.bs) x).length (jk (iO N (aY r.bs) x)))(g:∀y∈pre,iq (iO N (aY r.bs) y) (iO N (aY r.bs) x)=Bf):KeepsFrom (F (X d)) W (Sc (Sc wr (C (F (X w)+1+1+1) 0 G) (U a (iO N (aY r.bs) x).length c)) (C (F (X w)+1+1+1+1) 0 G) (Vb Bt))/\bU (λi=>i=F (X w)+1+1+1\/i=F (X w)+1+1+1+1) W (Sc (Sc wr (C (F (X w)+1+1+1) 0 G) (U a (iO N (aY r.bs) x).length c)) (C (F (X w)+1+1+1+1) 0 G) (Vb Bt))/\uf w r j h m l q t N d (pre++[x]) (Sc (Sc wr (C (F (X w)+1+1+1) 0 G) (U a (iO N (aY r.bs) x).length c)) (C (F (X w)+1+1+1+1) 0 G) (Vb Bt)):=by
 have n:bU (λi=>i=F (X w)+1+1+1\/i=F (X w)+1+1+1+1) W (Sc (Sc wr (C (F (X w)+1+1+1) 0 G) (U a (iO N (aY r.bs) x).length c)) (C (F (X w)+1+1+1+1) 0 G) (Vb Bt)):=((bU.bC k).setCell (.inr (.inl rfl)) _).setCell (.inr (.inr rfl)) _;refine⟨⟨by simpa using k.size,λi o z p _=>?_⟩,n,_,_,(s.ai k).am9 _,e.trans n,.inr ⟨_,a,c,rfl,rfl,⟨x,oS,rfl⟩,λy o=>?_,ajJ b O u _ _⟩⟩
 .rw[cx _ _ _ _ oT,cx _ _ _ _ oT];exact(k.block i (aM.1 p).1).trans p
 rcases aS.1 o with o|o
 .exact g y o
 rw[bu.1 o];exact Ja _
def uf.amv{N pre w}(u:oV b h f g m a d e (U n (Z w) c) Bt k)(r:bU (λp=>p=F (X b)+1+1+1\/p=F (X b)+1+1+1+1) i k)(t:Below (F (X k)) k o){x}(q:∃y∈pre,iO N (aY h.bs) y=w)(s:∀y∈pre,iq (iO N (aY h.bs) y) w=Bf)(wr:Ow k (F (X i)) 3 1 (U n (Z w) c) (Z w) (jk w))(v:iq (iO N (aY h.bs) x) w=Bf):KeepsFrom (F (X i)) k o/\bU (λp=>p=F (X b)+1+1+1\/p=F (X b)+1+1+1+1) k o/\uf b h f g m a d e N i (pre++[x]) o:=by
 refine⟨⟨t.size,λp W _ l _=>(t.block p (aM.1 l).1).trans l⟩,bU.bC t,_,_,u.ai t,r.trans (bU.bC t),.inr ⟨w,n,c,rfl,rfl,?_,λy p=>?_,aQ wr t (λj l=>(wr.lt j l).2)⟩⟩
 .obtain⟨y,p,l⟩:=q;exact⟨y,aS.2 (.inl p),l⟩
 rcases aS.1 p with p|p
 .exact s y p
 rw[bu.1 p];exact v
def ahI(w R L r N t)(h:Te w R L r N t):Calls prog 109 #[Va #[Y r.R.pd,r.hv,r.bv],cP t,.map (P R)] w (acd w (uO N r t)):=by
 obtain⟨ah,ch,y⟩:=aF h.cH.hd;obtain⟨ab,cb,d⟩:=aF h.cH.bo.row;have b:=H h;obtain⟨ct,T⟩:∃ct,ct=(bP t).toArray:=⟨_,rfl⟩;have KK:=H T;unfold cP;rw[<-T,y,d];have WR:=h.m.lt;have zB:=H y;have zA:=H d;clear T h y d;refine callsIn_wide.1 (callsIn_of_wp_marks (F:=Fence.wide) (n:=5) func109 rfl trivial (wpIn_wide.2 ?_) rfl);simp only[ntmps109,G1,ff,kB,Nat.reduceAdd,Nat.reduceSub,GG,GH,GZ,GJ,ql,jA];go_upto_region 3 with fail;generalize y:World.alloc (World.alloc (World.alloc (World.alloc (World.alloc w _) _) _) _) _=w0;have d:oV w r ah ab ch cb R t (U G 0 0) Bf w0:=by rw[<-y,ag KK];exact oV.start w r ah ab ch cb R t
 have f:=d.k;have Q:w0.heap.size=w.heap.size+1+1+1+1+1:=by rw[<-y];simp
 clear y;have v:=(aj d.rb 0).1;have z:=(aj d.rb 1).1;have K:=(aj d.rb 2).1;simp only[bt,aT,bx]at v z K;have y:=(b.cH.bo).ai f;rw[ag zA]at y;have HP:=H (FL w0 L r.R.pd ah (Z r.R.ts) ch ab cb r.bs y (oF b.l3));have yd:=H d;have oa:=H Q;have abP:=H y;clear d f Q y;go_upto_region 4 with(go_at_call 164;refine(HP).mono ?_;rintro en wP⟨ap,cp,rfl,y,NG,f⟩;have HRP:=H y;have KH:=H NG;clear y NG f);generalize y:World.alloc wP _=wQ;have f:Below w0.heap.size w0 wQ:=by rw[<-y];exact(KH).alloc KH.size _
 have k:wQ.heap[wP.heap.size]?=P (Vc #[U ap (r.bs.filter (dJ Bf)).length cp] 289):=by rw[<-y];exact aG wP _
 have W:Ow wQ (w0.heap.size+1) 79 2 (U ap (r.bs.filter (dJ Bf)).length cp) (r.bs.filter (dJ Bf)).length ((r.bs.filter (dJ Bf)).flatMap nG):=by rw[<-y];exact(HRP).alloc _
 have m:wQ.heap.size=wP.heap.size+1:=by rw[<-y];simp
 clear y;have d:=yd.ai f;have Q:=ag oa;have V:=f.size;have s:=b.m.block (d.k.block R WR);have T:=(b.cH.bo).ai d.k;rw[ag zA]at T;have o:Ow wQ L 191 1 (U ah (cq r).ts.length ch) (cq r).ts.length ((cq r).ts.map kx):=by have:=aQ b.cH.hd d.k (λg e=>(b.cH.hd.lt g e).2);rw[ag zB]at this;exact this
 have j:xd (λi=>i=w.heap.size+1+1+1\/i=w.heap.size+1+1+1+1) wQ R (U ah (cq r).ts.length ch) (U ab (Z r.bs) cb) L r.bs N:=
  ⟨T,s,O,λx a g M=>by have:=((b.cH.bo.aK x a).lt g M).2;omega,λg M=>O,b.l3,b.t4,_,_,_,rfl⟩
 have DC:=H (aok _ wQ R r.R.pd (cq r).ts _ _ L r.bs N t j o b.h4);have v:=(aj d.rb 0).1;have z:=(aj d.rb 1).1;have K:=(aj d.rb 2).1;have c5:=(aj d.mb 0).1;simp only[bt,aT,bx]at v z K c5;have t3:=d.tb.load;have Ge:=H d;have HAQ:=H k;have K1:=H W;have Ld:=H (And.intro m V);have Bc:=H f;have Sq:=H s;have HLQ:=H T;clear d j f k W m V Q s T o;have T:=H (show uO N r t=(match dZ [] (cq r) t with|none=>[]|some s=>(jn N (jj r.bs) (aY r.bs) s).map (iO N (aY r.bs))) from rfl);rw[show dZ [] ⟨r.R.pd,(cq r).ts⟩ t=dZ [] (cq r) t from rfl]at DC
 cases o:dZ [] (cq r) t with
 |none=>
  rw[o]at DC T;clear o;go_wp2_with(go_at_call 165;refine(DC).mono ?_;rintro en w1⟨V,-⟩;obtain⟨rfl,f⟩:=V rfl;have Q:=H f;clear V f);have d:=Ge.ai Q;have V:=Q.size;have k:=ag oa;have j:=ag Ld;refine(wpIn_wide (n:=5)).1 ?_;refine wpIn_rangeFunc_ownH (α:=Empty) rfl O (gf:=218) (lb:=#[]) rfl trivial (enters_of func218 oK rfl)
   (encs:=λx=>x.elim) (Kp:=λ_ _=>True) (S:=λxs=>xs=[]) (Sp:=λ_=>True) (N:=1) (w0:=w1) (aoj _ w1) (λ_ _=>trivial) (λ_ _ _ _ _ _ _ _=>trivial) B9 (λx=>x.elim)
   (λ(_:List Empty)(W:W8)=>oV w r ah ab ch cb R t (U G 0 0) Bf W)
   (λ(_:Code)(_:List Empty)(_:W8)=>False)
   (λm A B n u M S=>u.grown M (λi e=>by have:=(S i e).1;omega))
   (λc m A B n u M S=>u)
   d (λx _ _=>x.elim) (λx=>x.elim)
   (λl m x=>x.elim) (λl m x=>x.elim) ?done (λD c m W _ _ h=>h.elim)
  case done=>
   rintro D xs W hD-p q;have HL:=H p;have HD:=H hD;have zy:=H q;have l8:=(aj p.lb 0).1;have l9:=(aj p.fb 0).1;simp only[bt,aT]at l8 l9;clear p hD q;go_wp2;go_quiet(fail);go_wp2_with fail;refine zi [D] _ oS (λE hE=>?_) (λw' u=>?_)
   .rw[bu.1 hE];exact zy
   refine⟨Vt #[U G 0 0,Vb Bf],by simp[results,results109,go_sem],?_,.inl ⟨T,rfl⟩⟩;have p:=ag HL;have hD:=ag HD;exact⟨u.os.trans p.k.os,u.tape.trans p.k.tape,u.output.trans p.k.output,by rw[u.size];exact p.k.size,λi hi=>(u.block i oT).trans (p.k.block i hi)⟩
 |some s=>
  rw[o]at DC T;have ku:=b.neg s o;have hen:=b.jM s o;have HPO:=H (b.pos s o);have KU:=H (b.len s o);clear o;go_wp2_with(go_at_call 165;refine(DC).mono ?_;rintro en w1⟨-,o⟩;obtain⟨rb,xb,eb,rfl,f,y⟩:=o s rfl;have Q:=H f;have DB:=H y;clear o f y);have d:=Ge.ai Q;have V:=Q.size;have k:=ag oa;have j:=ag Ld;have zw:=H (show w.heap.size+1+1+1+1<w1.heap.size/\wP.heap.size<w1.heap.size by omega);have EB:=ag zw;clear V k j v z K c5 t3;refine(wpIn_wide (n:=5)).1 ?_;refine wpIn_rangeFunc_ownH (α:=kS N r.bs s) rfl O (gf:=233) (lb:=#[Vp (P (C rb 0 G)),Vp (P (C xb 0 G)),Vp (P (C eb 0 G))]) rfl trivial (enters_of func233 oK rfl)
   (apv _ _ w1 rb xb eb R r.R.pd _ _ L r.bs N s DB ku hen) (λh1 h2=>bU.trans h1 h2) (λW l o z _ K v y=>I7 W l o z K v y) B9 (λ_=>rfl)
   (λ(m:List (kS N r.bs s))(W:W8)=>uf w r ah ab ch cb R t N w1 (m.map (λy:kS N r.bs s=>y.1)) W)
   (λ(_:Code)(_:List (kS N r.bs s))(_:W8)=>False)
   (λm A B n u M S=>u.grown M (λi e=>S i e) EB.1)
   (λc m A B n u M S=>u)
   ⟨_,_,d,bU.refl _ _,.inl ⟨rfl,rfl,rfl⟩⟩
   (λ(x:kS N r.bs s)(a':Act)(W:W8)=>∃Bx,w1.heap.size<=Bx/\BV W Bx x.1/\a'={ tmps:=List.toArray ((Va #[Y r.R.pd,U ah (Z r.R.ts) ch,U ab (Z r.bs) cb])::(Va ct)::(Value.map (P R))::(Vp (P (C w.heap.size 0 G)))::(Vp (P (C (w.heap.size+1) 0 G)))::(Vp (P (C (w.heap.size+1+1) 0 G)))::(U G 0 0)::(Vb Bf)::(Vp (P (C (w.heap.size+1+1+1) 0 G)))::(Vp (P (C (w.heap.size+1+1+1+1) 0 G)))::(Vp (P (C wP.heap.size 0 G)))::(Vp (P (C Bx 0 G)))::undef::undef::undef::(Va #[Y r.R.pd,U ah (Z r.R.ts) ch,U ab (Z r.bs) cb])::(U ap (r.bs.filter (dJ Bf)).length cp)::(Va #[Y r.R.pd,U ah (Z r.R.ts) ch,U ab (Z r.bs) cb])::(cP t)::(Value.map (P R))::(Value.func (.func 233) #[] #[Vp (P (C rb 0 G)),Vp (P (C xb 0 G)),Vp (P (C eb 0 G))])::(ig x.1)::List.replicate 30 undef),defers:=[] })
   (λx a' _ A B n u M S=>let ⟨Bx,h1,h2,h3⟩:=u;⟨Bx,h1,h2.grown M (λi e=>(S i e).2),h3⟩)
   ?assign ?body ?done (λD c m W _ _ h=>h.elim)
  case assign=>
   intro l m x W B A S;have f:=H S;have o:=H A;have hz:w1.heap.size<=W.heap.size:=(by obtain⟨_,_,_,hk,_⟩:=A;exact hk.size);clear S A
   gi_wp2
   exact f _ _ ((KeepsOthers.alloc _ _).from _) ((bU.refl _ _).alloc _) (o.grown (BI W _ G) (λ_ e=>by cases e) EB.1) ⟨W.heap.size,hz,BV.new _ _,rfl⟩
  case body=>
   rintro l m x a' W N6-⟨lv,f,p,B,EW⟩ ⟨Bx,_,o,rfl⟩ -;have EB:=ag zw;have k:=ag oa;have j:=ag Ld;have NG:=KH.size;have V:=(gI.1 x.2).1;have A:∀g,(g=w.heap.size+1+1+1\/g=w.heap.size+1+1+1+1)->g<w0.heap.size+1:=λg M=>by omega
   have S:nx (λi=>i=w.heap.size+1+1+1\/i=w.heap.size+1+1+1+1) W (U ap (r.bs.filter (dJ Bf)).length cp) (dq Bf r.bs):=
    ((MO abP Bc K1 A (λx a g M=>by have:=((b.cH.bo.aK x a).lt g M).2;omega) b.t4).ai Q).rT B
   have z:W.heap[wP.heap.size]?=P (Vc #[U ap (r.bs.filter (dJ Bf)).length cp] 289):=B.cells ((Q.block _ O).trans HAQ) O;have uD:bQ W R N:=B.map (Sq.block (Q.block _ Sq.lt)) O;have dx:=B.size;have K:∀y∈dq Bf r.bs,fY (bM x.1 y.1):=λy hy=>HPO x.1 V y.1 (fW hy)
   have Oz:=ag KU x.1 V;rw[<-Fs Bf r.bs]at S z⊢;have Gz:=H (show iO N (aY r.bs) x.1=(dq Bf r.bs).map (λy=>(bK N (bM x.1 y.1)).getD 0) by unfold iO aY;rw[km];rfl);have hn3:(dq Bf r.bs).length<=3:=(by rw[Fs];exact bf (qU _ _) b.l3);generalize dq Bf r.bs=a at*;have zW:=(aj z 0).1;simp only[bt,aT]at zW;have vH:=Fw (Z a) O;have HL:=H p;have Dm:=H B;have qh:=H EW;have KI:=H o;have HAP:=H S;have Gr:=H uD;have ac0:=H K;clear p B EW o S z uD K V A k j
   gi_upto_region 7 with fail
   generalize j:World.alloc W _=wM;have A:Below W.heap.size W wM:=(by rw[<-j];exact(aZ W.heap.size W).alloc L9 _);have V:gd wM W.heap.size 3 (Z a) (λ_=>I J 0):=(by rw[<-j];exact gd.start W _ _ _);clear j vH;have aor:Ce wM (C wP.heap.size 0 G)=P (U ap (Z a) cp):=(A.cell (p:=(C wP.heap.size 0 G)) (by simp only[];omega)).trans zW;obtain⟨rv,k⟩:∃rv:Nat->Nat,rv=λj=>((a[j]?).map (λy=>(bK N (bM x.1 y.1)).getD 0)).getD 0:=⟨_,rfl⟩
   have SF:=H k;have z:=H (show Ly W rv (Z a) 0 wM from ⟨V.eq (λi hi=>oS),A⟩);clear A V k
   gi_upto_region 8 with fail
   gi_loopg [27] (Z a) (λV i wr=>∃k:Nat,k<=Z a/\V=Z a-k/\i=I J k/\Ly W rv (Z a) k wr)
   exact⟨0,aI _,rfl,rfl,z⟩
   case round=>
    clear z;obtain⟨k,hk,_,rfl,z⟩:=hrel
    by_cases gA:k<Z a
    .have S:=HAP.rT (bU.bC z.k);obtain⟨_,V⟩:=S.row;obtain⟨g,cap,hv,_,_,_,_,v⟩:=gu Em V k gA;injection hv with h1 h2 h3
     subst h1 h3;have hy:=aN gA;obtain⟨tb,K⟩:=S.aq _ hy;obtain⟨ta,tc,o⟩:=aF K;have tJ:=S.dc _ hy;have hT:=ag ac0 _ hy;have A:rv k=(bK N (bM x.1 a[k].1)).getD 0:=(by rw[ag SF];simp[gA]);rw[o]at K;have e0:Ce wr (C g (k*2) G)=P (Y a[k].1.p):=v 0 O;have e1:Ce wr (C g (k*2+1) G)=P (U ta a[k].1.ts.length tc):=(by rw[<-o];exact v 1 O);have kf:(k:Int)<Z a:=O;have qf:=H z;have Gw:=H A;have SK:=H K;generalize a[k].1=AT at*;have Fa:=z.row.lt;clear v S V z A h2 o K hy
     gi_upto_region 10 with fail
     generalize K:World.alloc wr _=wA;have kA:Below wr.heap.size wr wA:=(by rw[<-K];exact(aZ wr.heap.size wr).alloc L9 _);have aA:wA.heap[wr.heap.size]?=P (Vc #[Y AT.p,U ta (Z AT.ts) tc] 79):=(by rw[<-K];exact aG wr _);have sA:wA.heap.size=wr.heap.size+1:=(by rw[<-K];simp);clear K;obtain⟨S,K⟩:∃S:W8->Prop,S=λV=>∀i,i<wA.heap.size->i≠W.heap.size->V.heap[i]?=wA.heap[i]?:=⟨_,rfl⟩
     have o:=H (λ(V:W8)(A:S V)=>(show V.cell? (C (w.heap.size+1+1) 0 G)=P (.map (P R))/\BV V Bx x.1/\bQ V R N/\V.cell? (C wr.heap.size 0 G)=P (Y AT.p)/\V.cell? (C wr.heap.size 1 G)=P (U ta (Z AT.ts) tc) from by
      have z:=ag qf;rw[K]at A;have k2:=z.k.trans (kA.mono z.k.size);have v:∀i,i<W.heap.size->V.heap[i]?=W.heap[i]?:=λi hi=>(A i O O).trans (k2.block i hi)
      have aV:=(A wr.heap.size O O).trans aA
      exact⟨(aj ((v _ (aM.1 HL.mb).1).trans HL.mb) 0).1,(v _ KI.lt).trans KI,Gr.block (v _ Gr.lt),(aj aV 0).1,(aj aV 1).1⟩))
     have wJ:=H (λ(V:W8)(A:Below wA.heap.size wA V)=>(show S V from by rw[K];exact λi hi _=>A.block i hi));have Bn:=H (λ(V:W8)(A:S V)(v:V9)=>(show S (V.setCell (C W.heap.size k G) v) from by rw[K]at A⊢;exact λi hi v=>(cx _ _ _ _ (oU v)).trans (A i hi v)))
     have HLI:=H (λ(V:W8)(A:Below wA.heap.size wA V)=>(show Ly W rv (Z a) k V from by
      have z:=ag qf;have v:=kA.trans (A.mono kA.size)
      exact⟨z.row.ai v,z.k.trans (v.mono z.k.size)⟩))
     have ud:=H (λ(V:W8)(A:Below wA.heap.size wA V)=>CX V tb x.1 AT ta tc (gC SK (λg e=>(kA.trans (A.mono kA.size)).block g (SK.lt g e).2)) tJ Oz);have v:=ag wJ wA.drew B9.drew;clear kA aA K;refine P7 S oK oK (λ⟨_,_,h⟩=>h) ?_;refine K9 0 (U (P (C W.heap.size 0 G)) (Z a) (Z a)) rfl oG v ?_;refine K9 1 (I J k) rfl oG v ?_;refine K9 2 (.map (P R)) rfl (Or.inl ⟨by rfl,λV A=>by obtain⟨m4,b4,Ai,Ru,Rv⟩:=ag o V A;go_simp⟩) v ?_;refine K9 3 (ig x.1) rfl (Or.inl ⟨by rfl,λV A=>by obtain⟨m4,b4,Ai,Ru,Rv⟩:=ag o V A;have ld:=b4.load;go_simp⟩) v ?_;refine K9 4 (Va #[Y AT.p,U ta (Z AT.ts) tc]) rfl (Or.inl ⟨by rfl,λV A=>by obtain⟨m4,b4,Ai,Ru,Rv⟩:=ag o V A;go_simp⟩) v ?_;refine wpAnyH_ready (rs:=[5]) oK oS ?_;refine AllReadyH.cons rfl (λK hK=>?_) AllReadyH.nil
     go_simp
     refine(ud _ B9.drew).mono ?_;rintro en w4⟨uB,rfl⟩;have Vv:=jB uB;have rK:=ag wJ w4 Vv;have i4:=ag HLI w4 Vv;have ZZ:=i4.row.cell gA;have Z8:=i4.row.fz k;have HI4:=H i4;refine hK.out _ _ rK (λ_=>?_);clear hK K uB i4;refine K9 6 (I J (((bK N (bM x.1 AT)).getD 0:Nat):Int)) rfl (Or.inl ⟨by rfl,λV A=>by obtain⟨m4,b4,Ai,Ru,Rv⟩:=ag o V A;have Ys:=Ai.Fv hT underlying82;go_simp⟩) rK ?_;refine K9 7 (Vp (P (C W.heap.size k G))) rfl oG rK ?_;refine wpAnyH_ready (rs:=[8]) oK oS ?_;refine AllReadyH.cons rfl (λK hK=>?_) AllReadyH.nil
     go_simp
     refine hK.out _ _ (Bn _ rK _) (λ_=>?_);clear hK K;refine wpAnyH_done oK ?_ _
     gi_wp2
     gi_roundg (Z a-(k+1))
     case measure=>omega
     case rel=>
      have i4:=ag HI4;refine⟨k+1,O,rfl,oN,?_,?_⟩
      .refine((i4.row.set k (I J (((bK N (bM x.1 AT)).getD 0:Nat):Int)))).eq λj K=>?_
       by_cases e:j=k
       .subst e;simp[ag Gw]
       have A:(j<k+1)=(j<k):=(by apply propext;omega);simp only[aB e,A]
      exact i4.k.setCell L9 _
    have v:k=Z a:=O;subst v;have v:gd wr W.heap.size 3 (Z a) (λj=>I J (rv j:Nat)):=z.row.eq (λj K=>by rw[aD K]);have o:(List.range (Z a)).map rv=iO N (aY r.bs) x.1:=by
     rw[ag Gz,ag SF];apply GM
     .simp
     intro j h1 h2;simp at h1;simp[h1]
    have K:(iO N (aY r.bs) x.1).length=Z a:=(by rw[<-o];simp);have S:=v.jk oM (base:=w1.heap.size) dx;rw[o,<-K]at S;have V:=HL.ai z.k;have HK:=H z.k;have St:=H S;have kf:¬((Z a:Int)<Z a):=O;rcases ag qh with⟨sI,rfl,rfl⟩|⟨n,la,lc,rfl,rfl,Fb,Xw,A⟩
    .obtain⟨l8,z8⟩:=aj V.lb 0;obtain⟨l9,z9⟩:=aj V.fb 0;simp only[bt,aT]at l8 l9;have zF:=H sI;clear z v o S V sI
     gi_wp2_with (refine⟨trivial,?_⟩)
     have:=uf.put (pre:=m.map (λy:kS N r.bs s=>y.1)) HL Dm HK zw.1 (x:=x.1) St (λy hy=>by rw[ag zF]at hy;cases hy);rw[<-LX (f:=λy:kS N r.bs s=>y.1),<-fg,K]at this;exact this
    have Xx:=aQ A z.k (λg e=>(A.lt g e).2);have KJ:=H (aeG wr w1.heap.size w1.heap.size (P (C W.heap.size 0 G)) la (Z a) lc (iO N (aY r.bs) x.1) n (by rw[<-K];exact S) Xx);rw[K]at KJ;have WC:=Ym (iO N (aY r.bs) x.1) n;obtain⟨l8,z8⟩:=aj V.lb 0;obtain⟨l9,z9⟩:=aj V.fb 0;simp only[bt,aT]at l8 l9;have HX:=H (And.intro Fb (And.intro Xw A));have Sk:=H WC;clear z v o S V Fb Xw A Xx WC;generalize A:nO (iO N (aY r.bs) x.1) n=v at*;clear A
    by_cases A:v<0
    .have o:=Sk.1 A
     gi_wp2_with (refine⟨trivial,?_⟩;gi_at_call 166;refine(CallsIn.inRound l (callsIn_wide.2 KJ)).mono ?_;rintro en wx⟨rfl,z⟩;have z:=z.symm;subst z)
     have:=uf.put (pre:=m.map (λy:kS N r.bs s=>y.1)) HL Dm HK zw.1 (x:=x.1) St (λy hy=>by
      cases V:iq (iO N (aY r.bs) y) (iO N (aY r.bs) x.1) with
      |false=>rfl
      |true=>have:=OQ V o;rw[(ag HX).2.1 y hy]at this;cases this)
     rw[<-LX (f:=λy:kS N r.bs s=>y.1),<-fg,K]at this;exact this
    have o:iq (iO N (aY r.bs) x.1) n=false:=by
     cases V:iq (iO N (aY r.bs) x.1) n with
     |false=>rfl
     |true=>exact absurd (Sk.2 V) A
    gi_wp2_with (refine⟨trivial,?_⟩;gi_at_call 166;refine(CallsIn.inRound l (callsIn_wide.2 KJ)).mono ?_;rintro en wx⟨rfl,z⟩;have z:=z.symm;subst z)
    have:=uf.amv (pre:=m.map (λy:kS N r.bs s=>y.1)) HL Dm HK (x:=x.1) HX.1 HX.2.1 HX.2.2 o;rw[<-LX (f:=λy:kS N r.bs s=>y.1),<-fg]at this;exact this
  case done=>
   rintro D xs W hD a⟨lv,f,p,B,EW⟩ q;have HL:=H p;have HD:=H hD;have zy:=H q;have qh:=H EW;have Bn:=H a;have l8:=(aj p.lb 0).1;have l9:=(aj p.fb 0).1;simp only[bt,aT]at l8 l9;clear p hD q EW a B;go_wp2;go_quiet(fail);go_wp2_with fail;refine zi [D] _ oS (λE hE=>?_) (λw' u=>?_)
   .rw[bu.1 hE];exact zy
   refine⟨Vt #[lv,Vb f],by simp[results,results109,go_sem],?_⟩;have p:=ag HL;have hD:=ag HD;have EB:=ag zw;have E:∀z∈jn N (jj r.bs) (aY r.bs) s,z∈xs.map (λy:kS N r.bs s=>y.1):=λz hz=>aU.2 ⟨⟨z,hz⟩,Bn _,rfl⟩
   refine⟨⟨u.os.trans p.k.os,u.tape.trans p.k.tape,u.output.trans p.k.output,by rw[u.size];exact p.k.size,λi hi=>(u.block i oT).trans (p.k.block i hi)⟩,?_⟩;rcases ag qh with⟨h1,rfl,rfl⟩|⟨n,a,c,rfl,rfl,⟨y,hy,e⟩,B,S⟩
   .refine .inl ⟨?_,rfl⟩;rw[ag T];refine S7.2 λz hz=>?_
    obtain⟨q,V,_⟩:=aU.1 hz;have:=E q V;rw[h1]at this
    cases this
   refine .inr ⟨n,a,c,?_,λz hz=>?_,rfl,?_⟩
   .rw[ag T];obtain⟨q,V,rfl⟩:=aU.1 hy;exact aU.2 ⟨q.1,q.2,e⟩
   .rw[ag T]at hz;obtain⟨q,V,rfl⟩:=aU.1 hz;exact B q (E q V)
   refine aX (gC S λg M=>u.block g ?_) O;intro k;rw[bu.1 k]at M;rcases S.2 with⟨u,_⟩|⟨j,cap,_,u,_,z,_⟩
   .rw[u]at M;cases M
   rw[u]at M;have e:j=D:=(by simpa[Value.ownBlock]using M);subst e;have:=ag zy;rw[z]at this
   cases this
end
def xC:List aP->Nat->List (Th×Nat)
 | [],_=>[]
 |f::r,i=>(bp f.aH,i)::xC r (i+1)
def pQ(l:List aP):List (Th×Nat):=xC l 0
def PA:∀(l:List aP)(i:Nat),(xC l i).map (·.1)=l.map λf=>bp f.aH
 | [],_=>rfl
 |f::r,i=>by rw[xC,ir,ir,PA r (i+1)]
def Zl:∀(l:List aP)(i k:Nat)(h:k<Z l),(bp l[k].aH,i+k)∈xC l i
 | [],_,_,h=>absurd h (Nat.not_lt_zero _)
 |f::r,i,0,_=>by rw[xC];exact bz
 |f::r,i,k+1,h=>by
  rw[xC];have:=Zl r (i+1) k (oU h);rw[show i+(k+1)=i+1+k by omega];exact bG _ this
variable {a:List aP}
def aji(l:(a.map λf=>bp f.aH).Nodup)(k)(h:k<Z a):bK (pQ a) (bp a[k].aH)=P k:=by refine sL (by unfold pQ;rw[PA];exact l) ?_;have:=Zl a 0 k h;rw[lZ]at this;exact this
def vo(K N:List (Th×Nat)):Prop:=∀t,(∃n,(t,n)∈K)↔∃n,(t,n)∈N
def I3(K t):(bK K t).isSome=Bt↔∃n,(t,n)∈K:=by
 constructor
 .intro h;obtain⟨n,a⟩:=tq.1 h;exact⟨n,rU a⟩
 rintro⟨n,a⟩
 cases h:bK K t with
 |some _=>rfl
 |none=>exact absurd a (vQ h n)
variable {b:List (Th×Nat)}
def vo.look{N}(h:vo b N)(t):(bK b t).isSome=(bK N t).isSome:=by rw[oX,I3,I3];exact h t
def vo.O5{N:List (Th×Nat)}(h:vo b N):∀(K:List du)(e x:bJ),x∈gn b K e->x∈gn N K e
 | [],e,x,K=>K
 |a::r,e,x,K=>by
  rw[gn]at K⊢;obtain⟨p,g,K⟩:=gh.1 K;obtain⟨_,f⟩:=(h p.1).1 ⟨p.2,g⟩;refine gh.2 ⟨_,f,?_⟩
  cases c:dZ e a p.1 with
  |none=>rw[c]at K;cases K
  |some d=>rw[c]at K;exact h.O5 r d x K
def vo.symm{N}(h:vo b N):vo N b:=λt=>(h t).symm
def vo.ways{N}(h:vo b N)(K c e x):x∈jn b K c e↔x∈jn N K c e:=by
 have d:nJ b K x=nJ N K x:=by
  unfold nJ;have:(λa:du=>(bK b (bM x a)).isSome)=λa=>(bK N (bM x a)).isSome:=funext λa=>h.look _
  rw[this]
 unfold jn;rw[gI,gI,d];exact and_congr_left λ_=>⟨h.O5 c e x,h.symm.O5 c e x⟩
variable {h:aR}{j:kR}
def AS{x:kR}:∀(l:List aP)(i:Nat),j∈jU h x l i->∃(k:Nat)(a:k<Z l)(e:ec),gY x.1 h l[k].aH=P e/\j=(e,x.2++[i+k])
 | [],_,a=>by simp[jU]at a
 |f::r,i,a=>by
  rw[jU]at a;rcases aS.1 a with a|a
  .cases l:gY x.1 h f.aH with
   |none=>rw[l]at a;cases a
   |some e=>rw[l]at a;exact⟨0,oS,e,l,bu.1 a⟩
  obtain⟨k,c,e,l,b⟩:=AS r (i+1) a;exact⟨k+1,by simpa using c,e,l,by rw[b,show i+1+k=i+(k+1) by omega]⟩
def abl{x:kR}:∀(l:List aP)(i:Nat),(jU h x l i).Pairwise λy z=>iq y.2 z.2=Bt
 | [],_=>by simp[jU]
 |f::r,i=>by
  rw[jU];refine ym.2 ⟨?_,abl r (i+1),λy l z b=>?_⟩
  .split<;>simp
  obtain⟨_,_,_,_,rfl⟩:=AS r (i+1) b
  split at l
  .rw[bu.1 l];exact Yl _ O
  cases l
variable {d f:Nat}
def abn{a:aR}{l:List aP}:∀(e:List kR),(e.Pairwise λy z=>iq y.2 z.2=Bt)->(∀x∈e,x.2.length=d)->((jy a l e).Pairwise λy z=>iq y.2 z.2=Bt)/\∀x∈jy a l e,x.2.length=d+1
 | [],_,_=>by simp[jy]
 |x::r,hs,hl=>by
  have e:jy a l (x::r)=jU a x l 0++jy a l r:=by simp[jy]
  rw[BB]at hs;obtain⟨m,f⟩:=abn (a:=a) (l:=l) r hs.2 (λy b=>hl y (bG _ b));have c:=hl x bz;rw[e];refine⟨ym.2 ⟨abl l 0,m,λy b z x=>?_⟩,λy b=>?_⟩
  .obtain⟨k,_,_,_,rfl⟩:=AS l 0 b;obtain⟨u,z,x⟩:=gh.1 x;obtain⟨_,_,_,_,rfl⟩:=AS l 0 x;exact Yj _ _ (c.trans (hl u (bG _ z)).symm) (hs.1 u z)
  rcases aS.1 b with b|b
  .obtain⟨k,_,_,_,rfl⟩:=AS l 0 b;simp[c]
  exact f y b
def Rc :∀(b:List aR)(now:List kR)(m:Nat),(now.Pairwise λy z=>iq y.2 z.2=Bt)->(∀x∈now,x.2.length=m)->(j6 a b now).Pairwise λy z=>iq y.2 z.2=Bt
 | [],_,_,h,_=>h
 |l::r,now,m,h,hl=>by
  rw[j6]
  split
  .exact Rc r now m h hl
  obtain⟨z,y⟩:=abn (a:=l) (l:=a) now h hl;exact Rc r _ (m+1) z y
def aoa(R l):(lX R l).Pairwise λy z=>iq y.2 z.2=true:=
 (Rc R.body [([],[])] 0 oS oS).filter _
variable {c:P9}
def Rb(t:ia c b a):∀(K:List aR)(now:List kR)(done:List du),(∀l∈K,qQ c (pa l))->(∀x∈now,mG x.1/\x.2=iO (pQ a) done x.1/\∀l∈done,ny x.1 l)->∀y∈j6 a K now,y.2=iO (pQ a) (done++kL K) y.1/\∀x∈y.2,x<(Z a)\/x∈(now.flatMap (·.2))
 | [],now,done,_,hn,y,hy=>by
  have e:kL []=[]:=rfl;rw[j6]at hy;rw[e,kO];exact⟨(hn y hy).2.1,λx d=>.inr (gh.2 ⟨y,hy,d⟩)⟩
 |l::r,now,done,ha,hn,y,hy=>by
  have g:∀x∈r,qQ c (pa x):=λx d=>ha x (bG _ d)
  have K:=ha l bz;rw[j6]at hy
  cases q:l.no with
  |true=>have v:kL (l::r)=kL r:=(by unfold kL;rw[tf,q];simp);rw[q,aD rfl]at hy;rw[v];exact Rb t r now done g hn y hy
  |false=>
   have v:kL (l::r)=pa l::kL r:=(by unfold kL;rw[tf,q];simp);rw[q,aB oD]at hy;have M:∀z∈jy l a now,(mG z.1/\z.2=iO (pQ a) (done++[pa l]) z.1/\∀u∈done++[pa l],ny z.1 u)/\∀x∈z.2,x<(Z a)\/x∈(now.flatMap (·.2)):=λz f=>by
    obtain⟨x,d,f⟩:=gh.1 f;obtain⟨k,L,e,A,rfl⟩:=AS a 0 f;obtain⟨p,B,o⟩:=hn x d;have m:a[k]∈a:=aN L;have h:=t.dI _ m;have D:gY x.1 l a[k].aH=dZ x.1 (pa l) (bp a[k].aH):=by
     refine Jc p K.w h.w λe=>?_
     have s:bE c l.ax=P (pa l).ts.length:=K.bn;have w:bE c a[k].aH.ax=P (bp a[k].aH).2.length:=h.bn;rw[e,w]at s;have:=cI s;simp only[bp,pa,bF]at this;exact this.symm
    rw[D]at A;obtain⟨E,N,Q⟩:=PN (Ng K h) A;refine⟨⟨(FJ K h p A).1.w,?_,λu n=>?_⟩,λi j=>?_⟩
    .show x.2++[0+k]=(done++[pa l]).map _
     rw[fg,ir,vc,N,aji t.zj k L];rw[show(done.map λl=>(bK (pQ a) (bM e l)).getD 0)=iO (pQ a) done e from rfl,Qo E o,<-B];simp
    .rcases aS.1 n with n|n
     .exact E.Uy (o u n)
     rw[bu.1 n];exact Q
    rcases aS.1 j with j|j
    .exact .inr (gh.2 ⟨x,d,j⟩)
    rw[bu.1 j];exact .inl O
   obtain⟨s,w⟩:=Rb t r (jy l a now) (done++[pa l]) g (λz f=>(M z f).1) y hy;rw[v];refine⟨by rw[s,qT];rfl,λx d=>?_⟩;rcases w x d with h|h
   .exact .inl h
   obtain⟨z,f,y⟩:=gh.1 h;exact(M z f).2 x y
variable {g:PR}{i:bg}
def Rf(f:ia c b a)(K:nD i g)(r:kD c g)(R:j∈lX i a):j.2=iO (pQ a) (aY g.bs) j.1/\∀x∈j.2,x<Z a:=by
 obtain⟨d,e⟩:=Rb f i.body [([],[])] [] (K.body r) (λx l=>by rw[bu.1 l];exact⟨B5,rfl,oS⟩) j (gI.1 R).1;rw[K.pos];refine⟨by simpa using d,λx l=>?_⟩;rcases e x l with h|h
 .exact h
 simp at h
def PB(K:ia c b a):vo b (pQ a):=λt=>by
 have e:(∃n,(t,n)∈pQ a)↔t∈(pQ a).map (·.1):=by rw[aU];exact⟨λ⟨n,h⟩=>⟨_,h,rfl⟩,λ⟨p,h,e⟩=>⟨p.2,by rw[<-e];exact h⟩⟩
 have l:(∃n,(t,n)∈b)↔t∈b.map (·.1):=by rw[aU];exact⟨λ⟨n,h⟩=>⟨_,h,rfl⟩,λ⟨p,h,e⟩=>⟨p.2,by rw[<-e];exact h⟩⟩
 rw[e,l,K.key t];unfold pQ;rw[PA]
def Qt(l:ia c b a)(K:nD i g)(f:kD c g){t}(k:il c t)(d):d∈uO (pQ a) g t↔∃y∈lX i a,bp (bk y.1 i.ay)=t/\y.2=d:=by
 have h:∀p∈pQ a,il c p.1:=λp j=>by
  obtain⟨n,e⟩:=((PB l) p.1).2 ⟨p.2,j⟩;exact l.ti (p.1,n) e
 rw[alp h f k]
 constructor
 .rintro⟨e,R,r,rfl⟩;obtain⟨y,n,rfl⟩:=(C4 l K f e).2 (((PB l).ways _ _ _ _).2 R);exact⟨y,n,by rw[uS,<-K.hd];exact r,(Rf l K f n).1⟩
 rintro⟨y,n,r,rfl⟩;refine⟨y.1,((PB l).ways _ _ _ _).1 ((C4 l K f y.1).1 ⟨y,n,rfl⟩),?_,((Rf l K f n).1).symm⟩;rw[K.hd,<-uS];exact r
variable {e:aP}
def aaJ :∀(g d:List aP),e∈(eL a g d).1->e∈d\/((∃l b,g=l++e::b/\∀g∈l,g.text≠e.text)/\dp a e.text<0/\∀g∈d,g.text≠e.text)
 | [],d,h=>.inl h
 |c::r,d,h=>by
  rw[eL]at h
  split at h
  .exact .inl h
  rcases aaJ r _ h with i|⟨⟨l,b,rfl,q⟩,m,n⟩
  .unfold pc at i
   split at i
   .rename_i j;rcases aS.1 i with i|i
    .exact .inl i
    rw[bu.1 i];exact .inr ⟨⟨[],r,rfl,oS⟩,j.1,(yL d c.text).1 j.2⟩
   exact .inl i
  refine .inr ⟨⟨c::l,b,rfl,λg j=>?_⟩,m,λg j=>n g (Tz j)⟩;rcases bS.1 j with rfl|j
  .intro f;obtain⟨p,k,o⟩:=Ty (l:=a) (out:=d) (f:=g) (by rw[f];exact m);exact n p k (o.trans f)
  exact q g j
def MV{S:Nat->Nat}:∀(h:List bg)(i:Nat)(l b:List aP),im c S a d f h i=l++e::b->∃(j:Nat)(R:bg),h[j]?=P R/\S (aL c R.ay.ax).toNat=d/\(∃q y u,lX R a=q++y::u/\e=qA R d f (i+j) y/\∀n∈q,qA R d f (i+j) n∈l)/\∀p k,p<j->h[p]?=P k->S (aL c k.ay.ax).toNat=d->∀n∈lX k a,qA k d f (i+p) n∈l
 | [],i,l,b,h=>by
  rw[im]at h;simp at h
 |R::r,i,l,b,h=>by
  rw[im]at h;rcases List.append_eq_append_iff.1 h with⟨K,m,o⟩|⟨L,m,o⟩
  .obtain⟨j,Q,D,v,⟨q,y,u,w,z,A⟩,B⟩:=MV r (i+1) K b o;refine⟨j+1,Q,by simpa using D,v,⟨q,y,u,w,by rw[z,show i+1+j=i+(j+1) by omega],λn E=>?_⟩,λp k t s x n E=>?_⟩
   .rw[m,show i+(j+1)=i+1+j by omega];exact aS.2 (.inr (A n E))
   rw[m]
   cases p with
   |zero=>
    rw[aT]at s
    cases s
    refine aS.2 (.inl ?_);rw[aD x];exact aU.2 ⟨n,E,rfl⟩
   |succ g=>refine aS.2 (.inr ?_);rw[show i+(g+1)=i+1+g by omega];exact B g k O (oU s) x n E
  cases L with
  |nil=>
   rw[ql]at o;obtain⟨j,Q,D,v,⟨q,y,u,w,z,A⟩,B⟩:=MV r (i+1) [] b o.symm;rw[kO]at m;refine⟨j+1,Q,by simpa using D,v,⟨q,y,u,w,by rw[z,show i+1+j=i+(j+1) by omega],λn E=>?_⟩,λp k t s x n E=>?_⟩
   .cases A n E
   cases p with
   |zero=>
    rw[aT]at s
    cases s
    rw[<-m,aD x];exact aU.2 ⟨n,E,rfl⟩
   |succ g=>cases B g k O (oU s) x n E
  |cons x M=>
   rw[jA]at o;injection o with o w
   subst o
   split at m
   .rename_i v;obtain⟨q,ys,o,N,T⟩:=List.map_eq_append_iff.1 m;obtain⟨y,u,V,W,e6⟩:=List.map_eq_cons_iff.1 T;refine⟨0,R,rfl,v,⟨q,y,u,by rw[o,V],W.symm,λn E=>?_⟩,λp k t=>absurd t (Nat.not_lt_zero _)⟩;rw[<-N];exact aU.2 ⟨n,E,rfl⟩
   simp at m
structure Kx(ps:P9)(S:Nat->Nat)(rs:List bg)(l:List aP)(f:aP):Prop where
 tx:f.text=bI f.aH
 has:∃R,rs[f.r]?=P R/\S (aL ps R.ay.ax).toNat=f.s/\(∃y∈lX R l,y.2=f.fr/\bk y.1 R.ay=f.aH)/\∀y∈lX R l,bI (bk y.1 R.ay)=f.text->iq y.2 f.fr=Bf
 dS:∀j R,j<f.r->rs[j]?=P R->S (aL ps R.ay.ax).toNat=f.s->∀y∈lX R l,bI (bk y.1 R.ay)≠f.text
def afV{S p m}(h:uq c S p a d f m)(B:e∈m):Kx c S p a e/\e.s=d/\e.h=f:=by
 have Q:e∈(eL a (im c S a d f p 0) []).1:=by
  rcases h with⟨_,rfl⟩|⟨_,_,l⟩
  .exact B
  exact l.mem_iff.1 B
 rcases aaJ _ _ Q with t|⟨⟨l,b,t,z⟩,_⟩
 .cases t
 obtain⟨j,R,N,V,⟨_,y,_,A,n,L⟩,M⟩:=MV p 0 l b t;have x:e.r=j:=by rw[n];exact lZ j
 have r:e.s=d:=by rw[n];rfl
 have E:e.h=f:=by rw[n];rfl
 have K:e.text=bI (bk y.1 R.ay):=by rw[n];rfl
 have g:e.aH=bk y.1 R.ay:=by rw[n];rfl
 have q:e.fr=y.2:=by rw[n];rfl
 refine⟨⟨by rw[K,g],⟨R,by rw[x];exact N,by rw[r];exact V,⟨y,by rw[A];simp,q.symm,g.symm⟩,λo w v=>?_⟩,λW D i u k o w v=>?_⟩,r,E⟩
 .have s:=aoa R a;rw[A]at w s;rcases aS.1 w with w|w
  .exact absurd v (z _ (L o w))
  rcases bS.1 w with rfl|w
  .rw[q];exact Ja _
  have:=((BB.1 (ym.1 s).2.1).1) o w;rw[q]
  cases T:iq o.2 y.2 with
  |false=>rfl
  |true=>have:=OQ this T;rw[Ja]at this;cases this
 rw[r]at k;rw[x]at i;exact z _ (M W D i u k o w) v
def wk(g f:aP):Bool:=decide (g.s<f.s)||(decide (g.s=f.s)&&decide (g.h<f.h))
variable {f l:aP}
def De :wk l f=Bt↔l.s<f.s\/(l.s=f.s/\l.h<f.h):=by unfold wk;simp
def aba :wk l f=Bf↔¬(l.s<f.s\/(l.s=f.s/\l.h<f.h)):=by rw[<-De];simp
structure om(ps:P9)(S:Nat->Nat)(rs:List bg)(l:List aP):Prop where
 srt:l.Pairwise λx y=>jX y x=Bf
 aK:∀f∈l,∃l0 r,l=l0++r/\f∈r/\(∀g∈l0,wk g f=Bt)/\(∀g∈r,wk g f=Bf)/\Kx ps S rs l0 f
def om.nil(a S b):om a S b []:=⟨oS,oS⟩
def ad8{x}(h:wk x f=Bt):jX f x=false:=by
 rw[De]at h;unfold jX
 by_cases a:f.s=x.s
 .rw[aB (by simp[a])];rw[aD oT];simp;omega
 rw[aD (oU a)];simp;omega
variable {a:P9}{b i:List aP}{c:List bg}{e j:Nat}
def om.jP{S}(h:om a S c b)(q:∀f∈b,f.s<d\/(f.s=d/\f.h<e))(t:uq a S c b d e i)(z:Z b+Z i<=50):om a S c (b++i)/\∀f∈b++i,f.s<d\/(f.s=d/\f.h<e+1):=by
 have n:∀f∈i,Kx a S c b f/\f.s=d/\f.h=e:=λf n=>afV t n
 have v:i.Pairwise λx y=>jX y x=false:=by
  rcases t with⟨k,rfl⟩|⟨_,l,_⟩
  .have:=QT _ _ k;omega
  exact l
 have p:∀g∈b,∀f∈i,wk g f=true:=λg s f j=>by
  obtain⟨_,m,o⟩:=n f j;rw[De,m,o];exact q g s
 refine⟨⟨ym.2 ⟨h.srt,v,λx r y u=>ad8 (p x r y u)⟩,λf j=>?_⟩,λf j=>?_⟩
 .rcases aS.1 j with k|k
  .obtain⟨w,r,rfl,l,y,x,u⟩:=h.aK f k;refine⟨w,r++i,by rw[qT],aS.2 (.inl l),y,λg s=>?_,u⟩;rcases aS.1 s with s|s
   .exact x g s
   have:=p f k g s;rw[De]at this;rw[aba];omega
  obtain⟨l,m,o⟩:=n f k;refine⟨b,i,rfl,k,λg s=>p g s f k,λg s=>?_,l⟩;obtain⟨_,_,_⟩:=n g s;rw[aba];omega
 rcases aS.1 j with k|k
 .have:=q f k;omega
 obtain⟨_,m,o⟩:=n f k;omega
variable {k:Option (List aP)}
def aey{S}(p:d<=50)(h:oQ a S c d e j b k):om a S c b->(∀f∈b,f.s<e\/(f.s=e/\f.h<j))->∀l,k=P l->om a S c l/\∀f∈l,f.s<e+1:=by
 induction h with
 |over _ _=>intro _ _ l s;cases s
 |done _ _=>intro i g l s;cases s;exact⟨i,λf n=>by have:=g f n;omega⟩
 |jP m _ r _ o=>intro i g l s;obtain⟨f,n⟩:=i.jP g m O;exact o f n l s
def aaB{S}(p:d<=50)(h:kH a S c d e j b k):om a S c b->(∀f∈b,f.s<j)->∀l,k=P l->om a S c l:=by
 induction h with
 |lE _=>intro g _ l i;cases i;exact g
 |fails _ _=>intro _ _ l i;cases i
 |next _ n _ q=>intro g m l i;obtain⟨s,r⟩:=aey p n g (λf o=>.inl (m f o)) _ rfl;exact q s r l i
structure yj(rs:List bg)(rp:List PR):Prop where
 len:Z rs=Z rp
 aC:∀(i:Nat)(h:i<Z rs)(h':i<Z rp),nD rs[i] rp[i]
variable {g:List (Th×Nat)}
def ia.take(h:ia a g (b++i)):ia a (b.map λf=>(bp f.aH,f.h)) b:=by
 have c:=h.zj;rw[fg]at c;have d:=(pF.1 c).1;refine⟨λt n=>?_,?_,d,λf n=>h.dI f (aS.2 (.inl n)),λf n=>h.text f (aS.2 (.inl n))⟩
 .rw[aU]
  constructor
  .rintro⟨f,n,e⟩;injection e with t K
   exact⟨f,n,t,K⟩
  rintro⟨f,n,rfl,rfl⟩;exact⟨f,n,rfl⟩
 rw[km];exact d
structure yt(N:List (Th×Nat))(rp:List PR)(t:Th)(i:Nat)(row:List Nat):Prop where
 dS:∀j (h:j<Z rp),j<i->uO N rp[j] t=[]
 lt:i<Z rp
 mem:row∈uO N rp[i] t
 vP:∀row'∈uO N rp[i] t,iq row' row=Bf
variable {h:List PR}
def yt.Kj{N t x y}(b:yt N h t d x)(k:yt N h t j y):d=j/\x=y:=by
 have e:d=j:=by
  rcases BF d j with a|a|a
  .have:=b.mem;rw[k.dS d b.lt a]at this;cases this
  .exact a
  have:=k.mem;rw[b.dS j k.lt a]at this;cases this
 subst e;exact⟨rfl,Yk (k.vP _ b.mem) (b.vP _ k.mem)⟩
def om.vP{S}(L:qu a c h)(q:yj c h)(M:ia a g b)(W:om a S c b)(N:f∈b):∃i r,b=i++r/\(∀K∈i,wk K f=Bt)/\(∀K∈r,wk K f=Bf)/\yt (pQ i) h (bp f.aH) f.r f.fr/\f.s=S (aL a f.aH.ax).toNat/\(Z f.fr)<=3/\∀x∈f.fr,x<Z i:=by
 obtain⟨i,r,rfl,_,T,V,p⟩:=W.aK f N;have l:=M.take;have d:=M.dI f N;obtain⟨_,v,Q,⟨y,R,e,o⟩,B⟩:=p.has;obtain⟨m,rfl⟩:=qj.1 v;have t:f.r<Z h:=by rw[<-q.len];exact m
 have hrel:=q.aC f.r m t;have s:=L.dI _ (aN t);have n:c[f.r].ay.ax=f.aH.ax:=by rw[<-o];rfl
 have K:=Rf l hrel s R;refine⟨i,r,rfl,T,V,⟨λj w A=>?_,t,?_,λE u=>?_⟩,by rw[<-n];exact Q.symm,?_,λx E=>K.2 x (by rw[e];exact E)⟩
 .refine S7.2 λE K=>?_
  have k:j<Z c:=by rw[q.len];exact w
  obtain⟨z,D,x,_⟩:=(Qt l (q.aC j k w) (L.dI _ (aN w)) d E).1 K;have w:c[j].ay.ax=f.aH.ax:=gQ Prod.fst x;refine p.dS j c[j] A (dr k) (by rw[w,<-n];exact Q) z D ?_;rw[sU,x,p.tx,sU]
 .refine(Qt l hrel s d _).2 ⟨y,R,by rw[o],e⟩
 .obtain⟨z,D,x,rfl⟩:=(Qt l hrel s d _).1 u;exact B z D (by rw[sU,x,p.tx,sU])
 rw[<-e,K.1];unfold iO;rw[bF];exact bf (ZJ _) s.l3
end
section
open Go.RowKit Go.Maps
def ZG{K:List (Th×Nat)}{b:List B8}:∀(p:List du)(e x:bJ),iY b e->(∀a∈p,∀t∈a.ts,t.1=Bt->t.2∈b)->x∈gn K p e->iY b x
 | [],e,x,h,_,t=>by
  rw[gn]at t;rw[bu.1 t];exact h
 |a::r,e,x,h,hv,t=>by
  rw[gn]at t;obtain⟨p,_,t⟩:=gh.1 t
  cases c:dZ e a p.1 with
  |none=>rw[c]at t;cases t
  |some d=>rw[c]at t;exact ZG r d x (h.Je (hv a bz) c) (λy f=>hv y (bG _ f)) t
variable {a:Nat}{b:W8}
def ahJ{ps d r N t}(v:l6 b d r)(q:bQ b a N)(c:kD ps r)(o:∀p∈N,il ps p.1)(m:il ps t):Te b a d r N t:=by
 have l:∀s,dZ [] (cq r) t=P s->iY (uN r.bs) s:=λs p=>(iY.nil _).Je (λu k x=>by
  obtain⟨n,i,j⟩:=c.QA u k x
  exact JJ i j) p
 have j:∀s,dZ [] (cq r) t=P s->∀e∈gn N (aY r.bs) s,mG e/\∀n∈aY r.bs,ny e n:=λs p e f=>by
  have h:=(FJ c.hd m B5 p).1.w;obtain⟨g,w⟩:=PO o (aY r.bs) s e c.pos h f;exact⟨g.w,λn i u k x=>w n i u k x⟩
 refine⟨v,q,c.l3,λx w=>(c.ls x w).w.dc,c.hd.w.dc,m.ok,λs p e f x w=>?_,λs p e f x w=>?_,l,λs p e f=>?_⟩
 .obtain⟨h,g⟩:=j s p e f;exact(Ip (c.neg x w) h (c.M8 g x w)).ok
 .obtain⟨h,g⟩:=j s p e f;exact(Ip (c.pos x w) h (g x w)).ok
 have h:=(ZG (aY r.bs) s e (l s p) (λn i u k _=>JJ i k) f).len;have g:=JI c.l3 (λx w=>(c.ls x w).w.dc);omega
def acC(w:W8)(rs:List PR)(N:List (Th×Nat))(t:Th)(e:Ending)(w':W8):Prop:=
 Below (F (X w)) w w'/\∃(i:Nat)(row:List Nat)(a:O8)(c:Nat),e=Vr (Va #[I J (i:Nat),U a (Z row) c])/\Ow w' (F (X w)) 3 1 (U a (Z row) c) (Z row) (jk row)/\(yt N rs t i row\/∀r∈rs,uO N r t=[])
structure Ee(w:W8)(p:Pl)(nb:Nat)(N:List (Th×Nat))(wr:W8):Prop where
 pb:wr.heap[F (X w)]?=P (Vc (gy p).toArray 148)
 rb:wr.heap[F (X w)+1]?=P (Vc #[I J 0,U G 0 0] 150)
 m:bQ wr nb N
 k:Below (F (X w)) w wr
def Ee.ai{w p N wr}(h:Ee w p a N wr)(k:Below (F (X wr)) wr b):Ee w p a N b:=
 ⟨(k.block _ (aM.1 h.pb).1).trans h.pb,(k.block _ (aM.1 h.rb).1).trans h.rb,h.m.block (k.block _ h.m.lt),h.k.trans (k.mono h.k.size)⟩
def al3(M w l bo ar ao cr co b a p)(K:gi w l (U ar (Z b) cr) b)(y:Ow w bo 148 7 (U ao (Z a) co) (Z a) (a.flatMap gy))(W:∀r∈b,kD M r)(N:∀q∈a,il M q.t)(h:il M p.t)(e:(a.map (·.t)).Nodup)(hl:Z a<=1000):Calls prog 69 #[U ar (Z b) cr,U ao (Z a) co,tQ p] w (acC w b (iB p a 0) p.t):=by
 have HR:=H K;have HO:=H y;have HG:=H W;have A:=H N;have HT:=H h;have pC:=H e;have Aj:=ej K.row;unfold maxLen at Aj;clear K y W N h e;unfold tQ gy;go_in;go_upto_region 1 with fail;generalize e:World.alloc (World.alloc w _) _=w0;have N:Below (F (X w)) w w0:=by rw[<-e];exact((aZ (F (X w)) w).alloc L9 _).alloc oS _
 have y:w0.heap[F (X w)]?=P (Vc (gy p).toArray 148):=by rw[<-e,aW _ _ _ oS];exact aG w _
 have m:w0.heap[F (X w)+1]?=P (Vc #[I J 0,U G 0 0] 150):=by rw[<-e];have:=aG (Al w (Vc (gy p).toArray 148)) (Vc #[I J 0,U G 0 0] 150);rw[bL]at this;exact this
 clear e;have h:=(aj y 0).1;have j:=(aj y 1).1;have v:=(aj y 2).1;have u:=(aj y 3).1;have d:=(aj y 4).1;have s:=(aj y 5).1;have S:=(aj y 6).1;simp only[gy,bt,aT,bx]at h j v u d s S;have k:=H (anR w0 bo ao co a p (aQ HO N (λg e=>(HO.lt g e).2)) (λq i=>(A q i).ok) pC hl);have z:=H N;have D:=H y;have E:=H m;clear N y m;go_wp2_with(go_at_call 108;refine(k).mono ?_;rintro en w1⟨nb,rfl,_,N,y⟩;have Gr:=H N;have m:=H y;clear N y);have c:=H (show Ee w p nb (iB p a 0) w1 from ⟨(m.block _ (aM.1 D).1).trans D,(m.block _ (aM.1 E).1).trans E,Gr,z.trans (m.mono z.size)⟩)
 have HN:=H (show ∀q∈iB p a 0,il M q.1 from λq i=>by
  obtain⟨y,N,e⟩:=Js a 0 i
  rw[<-e];exact A y N)
 generalize iB p a 0=N at*;clear h j v u d s S k
 go_loopg [17] (Z b) (λS i wr=>∃k:Nat,k<=Z b/\S=Z b-k/\i=I J k/\Ee w p nb N wr/\∀(j:Nat)(h:j<Z b),j<k->uO N b[j] p.t=[])
 exact⟨0,aI _,rfl,rfl,c,λj _ h=>O⟩
 case round=>
  clear c;obtain⟨k,_,_,rfl,i,q⟩:=hrel;have c:=H q;clear q
  by_cases u:k<Z b
  .obtain⟨r,q⟩:∃r,r=b[k]:=⟨_,rfl⟩;have d:r∈b:=(by rw[q];exact aN u);have y:=HR.aK r d;obtain⟨S,V,s⟩:=aF y.hd;obtain⟨R,T,o⟩:=aF y.bo.row;obtain⟨g,_,hv,_,t,_,_,Q⟩:=gu JK HR.row k u;injection hv with f h2 x
   subst f x;have f:=i.k;have e0:Ce wr (C g (k*3) G)=P (Y r.R.pd):=(by rw[q];exact(f.cell (p:=(C g (k*3) G)) t).trans (Q 0 O));have e1:Ce wr (C g (k*3+1) G)=P (U S (Z r.R.ts) V):=(by rw[<-s,q];exact(f.cell (p:=(C g (k*3+1) G)) t).trans (Q 1 O));have e2:Ce wr (C g (k*3+2) G)=P (U R (Z r.bs) T):=(by rw[<-o,q];exact(f.cell (p:=(C g (k*3+2) G)) t).trans (Q 2 O));have kf:(k:Int)<Z b:=O;have x:=i.ai ((aZ (F (X wr)) wr).alloc L9 (Vc #[Y r.R.pd,U S (Z r.R.ts) V,U R (Z r.bs) T] 123));have b0:=(aj x.pb 0).1;have b1:=(aj x.pb 1).1;have b2:=(aj x.pb 2).1;have b3:=(aj x.pb 3).1;have b4:=(aj x.pb 4).1;simp only[gy,bt,aT,bx]at b0 b1 b2 b3 b4;have HA:=H (ahI (Al wr (Vc #[Y r.R.pd,U S (Z r.R.ts) V,U R (Z r.bs) T] 123)) nb l r N p.t (ahJ (ps:=M) ⟨aQ y.hd x.k (λg e=>(y.hd.lt g e).2),y.bo.ai x.k,y.eq⟩ x.m (HG r d) HN HT));rw[s,o]at HA;have Gn:=H x;have n:=H q;have oy:=(aM.1 i.rb).1;have L:(Al wr (Vc #[Y r.R.pd,U S (Z r.R.ts) V,U R (Z r.bs) T] 123)).heap.size=F (X wr)+1:=oS;have B:=H L;clear Q f i x y d h2 q s o L;go_wp2_with(go_at_call 109;refine(HA).mono ?_;rintro en w2⟨o,(⟨f,rfl⟩|⟨s,a2,v,hme,hle,rfl,q⟩)⟩<;>(have xZ:=H o;have d:=Gn.ai o;have y:=H d;obtain⟨L,f0⟩:=aj d.rb 0;obtain⟨Q,f1⟩:=aj d.rb 1;simp only[bt,aT,bx]at L Q;clear o d))
   .go_roundg (Z b-(k+1))
    case measure=>omega
    case rel=>
     refine⟨k+1,O,rfl,oN,y,λj h hj=>?_⟩
     by_cases e:j=k
     .subst e;rw[<-ag n];exact f
     exact c j h O
   obtain⟨e,o⟩:=tS L Q (I J (k:Nat)) (U a2 (Z s) v);refine bN (v:=Va #[I J (k:Nat),U a2 (Z s) v]) (by simp[results,results69,go_sem,e,o]) rfl ?_;have d:=ag y;have h:=xZ.size;rw[ag B]at h;refine⟨ib d.k (py _ (F (X w)+1) _ _) d.k.size oS,k,s,a2,v,rfl,?_,.inl ⟨c,u,by rw[<-ag n];exact hme,λx hx=>hle x (by rw[ag n];exact hx)⟩⟩;rw[ag B]at q;exact aX (AF q (py _ (F (X w)+1) _ _) (λg W=>by have:=(q.lt g W).1;omega)) (oF d.k.size)
  have d:=H i;obtain⟨L,f0⟩:=aj i.rb 0;obtain⟨Q,f1⟩:=aj i.rb 1;simp only[bt,aT,bx]at L Q;clear i;go_wp2_with fail;obtain⟨e,o⟩:=tS L Q (I J 0) (U G 0 0);refine bN (v:=Va #[I J 0,U G 0 0]) (by simp[results,results69,go_sem,e,o]) rfl ?_;have i:=ag d;refine⟨ib i.k (py _ (F (X w)+1) _ _) i.k.size oS,0,[],G,0,rfl,dm _ _ _ _,.inr λr K=>?_⟩;obtain⟨j,hj,rfl⟩:=GX.1 K;exact c j hj O
def gU(rs:List bg)(a:aR->Nat->aP)(b:List Nat):Nat->Nat->List aP->List ec->Option (List aP×List ec×Nat)
 | 0,i,l,es=>P (l,es,i)
 |n+1,i,l,es=>match b[i]? with
  |none=>G
  |some r=>match rs[r]? with
   |none=>G
   |some R=>if (Z b)<i+1+gD R.body then G else match kg l R.body ((b.drop (i+1)).take (gD R.body)) [] with
    |none=>G
    |some E=>if dp l (bI (bk E R.ay))<0 then gU rs a b n (i+1+gD R.body) (l++[a (bk E R.ay) r]) (es++[E]) else G
def Po{d:P9}{l:List aP}(j:∀f∈l,il d (bp f.aH)):∀(b:List aR)(c:List Nat)(e:ec),(∀a∈b,qQ d (pa a))->mG e->kg l b c e=lV (kL b) c (l.map λf=>bp f.aH) e
 | [],_,_,_,_=>rfl
 |a::r,c,e,hb,he=>by
  rw[FB]
  cases m:a.no with
  |true=>have g:kL (a::r)=kL r:=(by unfold kL;rw[List.filter_cons_of_neg (by simp[m])]);rw[aD rfl,g];exact Po j r c e (λx b=>hb x (bG _ b)) he
  |false=>
   have g:kL (a::r)=pa a::kL r:=(by unfold kL;rw[List.filter_cons_of_pos (by simp[m])];rfl);rw[aB oS,g,J5]
   cases c with
   |nil=>rfl
   |cons x q=>
    simp only[gP]
    cases b:l[x]? with
    |none=>rfl
    |some f=>
     have p:f∈l:=tg b;have i:=hb a bz;have k:=j f p;have s:gY e a f.aH=dZ e (pa a) (bp f.aH):=Jc he i.w k.w λn=>by
      have h:bE d a.ax=P (pa a).ts.length:=i.bn;have o:bE d f.aH.ax=P (bp f.aH).2.length:=k.bn;rw[n,o]at h;simp only[DS,pa,bp,bF]at h;exact h.symm
     simp only[ve,s]
     cases o:dZ e (pa a) (bp f.aH) with
     |none=>rfl
     |some h=>simp only;exact Po j r q h (λx b=>hb x (bG _ b)) (FJ i k he o).1.w
def aof(m:Nat)(h:m<256):IntKind.i64.wrap (m:Int)=m:=by simp[IntKind.wrap,IntKind.signed,IntKind.bits];omega
def ov(ps:P9)(S:Nat->Nat)(A:aR)(r:Nat):aP:=⟨A,bI A,S (aL ps A.ax).toNat,0,r,[]⟩
structure EV where
 e:ec
 nv:V9
 tv:V9
def EV.cells(x:EV):V8:=[x.nv,x.tv]
structure xW(w:W8)(base:Nat)(v:V9)(xs:List EV):Prop where
 row:Ow w base 258 2 v (Z xs) (xs.flatMap EV.cells)
 aK:∀x∈xs,jz w base x.e x.nv x.tv
variable {e:List EV}{c m:Nat}{d f q:V9}{a i o:W8}
def xW.ai(h:xW a c d e)(k:Below (F (X a)) a b):xW b c d e:=⟨aQ h.row k (λg w=>(h.row.lt g w).2),λx w=>(h.aK x w).ai k⟩
variable {p:ec}{h:List Nat}
def jz.I8(B:jz a c p f d)(k:ak h a i)(e:∀b∈h,er a 9 b):jz i c p f d:=
 ⟨j3 B.ns k (λb w=>.inr (e b w)),j3 B.ts k (λb w=>.inr (e b w)),B.nil⟩
def ahe:(prog.info? 258).map (λi=>(i.zero,i.size,i.bytes))=P (P (Va #[U G 0 0,U G 0 0]),2,48):=oK
structure oZ(w:W8)(v7:V9)(fs:List FG)(v8:V9)(xs:List EV)(wr:W8):Prop where
 ai:Below (F (X w)) w wr
 bV:gV wr (F (X w)) v7 fs
 vz:xW wr (F (X w)) v8 xs
variable {g:List FG}
def oZ.zm(h:oZ a d g f e b)(k:Below (F (X b)) b i):oZ a d g f e i:=⟨h.ai.trans (k.mono h.ai.size),h.bV.ai k,h.vz.ai k⟩
def oZ.pc{x}(h:oZ a f g q e b)(p:lk b (F (X a)) x)(j:ak [] b i)(k:i.grownBy o f.ownBlock)(w:Ow o (F (X a)) 262 10 d (Z g+1) (g.flatMap FG.cells++x.cells)):oZ a d (g++[x]) q e o:=by
 have W:ak f.ownBlock.toList b o:=(j.mono oS).trans (ak.jF k);have l:∀m,262≠m->∀c∈f.ownBlock.toList,er b m c:=λm y=>gl h.bV.row y
 exact⟨ib h.ai W h.ai.size (λc y=>(h.bV.row.lt c (oU y)).1),h.bV.add p j k w,⟨j3 h.vz.row W (λc y=>.inr (l _ oD c y)),λy c=>(h.vz.aK y c).I8 W (l _ oD)⟩⟩
def oZ.acZ{x}(h:oZ a d g q e b)(p:jz b (F (X a)) x.e x.nv x.tv)(n:ak [] b o)(m:o.grownBy i q.ownBlock)(w:Ow i (F (X a)) 258 2 f (Z e+1) (e.flatMap EV.cells++x.cells)):oZ a d g f (e++[x]) i:=by
 have c:ak q.ownBlock.toList b i:=(n.mono oS).trans (ak.jF m);have l:∀k,258≠k->∀W∈q.ownBlock.toList,er b k W:=λk y=>gl h.vz.row y
 refine⟨ib h.ai c h.ai.size (λW y=>(h.vz.row.lt W (oU y)).1),⟨j3 h.bV.row c (λW y=>.inr (l _ oD W y)),λy W=>(h.bV.aK y W).iT c (l _ oD) (l _ oD)⟩,⟨by rw[br,oc];simpa using w,λy W=>?_⟩⟩;rcases aS.1 W with W|W
 .exact(h.vz.aK y W).I8 c (l _ oD)
 rw[bu.1 W];exact p.I8 c (l _ oD)
def oZ.ahw(h:oZ b d g f e a)(W:ak [] a i)(j:i.grownBy o d.ownBlock){m t}(w:a.heap[c]?=P (Vc m t))(k:262≠t):o.heap[c]?=P (Vc m t):=
 lC w ((W.mono oS).trans (ak.jF j)) (λx l=>.inr (gl h.bV.row k x l))
def oZ.ahv(h:oZ a f g q e b)(j:ak [] b i)(l:i.grownBy o f.ownBlock){w}(k:jz b c p w d):jz o c p w d:=
 k.I8 ((j.mono oS).trans (ak.jF l)) (gl h.bV.row oD)
structure Mj(w:W8)(o:Nat)(rs:List RR)(ps:P9)(rv pv tv:V9)(gs:Nat)(S:Nat->Nat)(b:aP->Prop):Prop where
 prog:kC w o rs ps rv pv tv (U (P (C gs 0 G)) (Z ps) (Z ps))
 sf:jW w gs (Z ps) S
 body:∀r∈rs,Z r.bs<=3
 aq:∀r∈rs,∀a∈r.R.ay::r.R.body,Z a.aq<=4
 xx:∀r∈rs,0<=aL ps r.R.ay.ax
 dI:∀(i:Nat)(r:RR)(l:List aP)(fr:List Nat)(E:ec),rs[i]?=P r->(∀f∈l,b f)->kg l r.R.body fr []=P E->(fR (bk E r.R.ay)).length<=1000000000/\b (ov ps S (bk E r.R.ay) i)
variable {j:List ec}{k:List aP}{l:List bg}{n:aR->Nat->aP}
def aj9(d:Z h<=m):gU l n h (c+1) m k j=none:=by rw[gU,od d]
def ajb{x}(a:h[m]?=P x)(e:Z l<=x):gU l n h (c+1) m k j=none:=by rw[gU,a];simp only[od e]
variable {s:bg}
def aja{x}(a:h[m]?=P x)(f:l[x]?=P s)(e:Z h<m+1+gD s.body):gU l n h (c+1) m k j=none:=by rw[gU,a];simp only[f];rw[aD e]
def aj8{x}(a:h[m]?=P x)(f:l[x]?=P s)(e:¬(Z h)<m+1+gD s.body):gU l n h (c+1) m k j=match kg k s.body ((h.drop (m+1)).take (gD s.body)) [] with
  |none=>G
  |some E=>if dp k (bI (bk E s.ay))<0 then gU l n h c (m+1+gD s.body) (k++[n (bk E s.ay) x]) (j++[E]) else none:=by
 rw[gU,a];simp only[f];rw[aB e]
 all_goals rfl
variable {r:Ending}
def zT.Pu(h:zT a b G r):∃f w n c m d,r=Vr (Vt #[Va #[U f n c,U w m d],Vb Bf]):=by
 cases h with
 |no=>exact⟨_,_,_,_,_,_,rfl⟩
def zT.pV(h:zT a b (P p) r):∃f w c d,jz b (F (X a)) p (U f (Z p) c) (U w (Z p) d)/\r=Vr (Vt #[Va #[U f (Z p) c,U w (Z p) d],Vb Bt]):=by
 cases h with
 |yes h=>exact⟨_,_,_,_,h,rfl⟩
variable {c2 c3 eM eN et eu dv dy eh dn cJ cF bX bY bZ b7 b8 cc cd cg ck cm cy cz cC cD cE cK cL cM cQ cR cS cT cU cV cW cX cY cZ da cN cO de dh cG dz dA dB dC dD dE dF dG dH dO dP dQ dR ei ev ew ey ez eP eQ eR eS eT eU eV eA eB dW dX dY eC eD eE eF eG eH eI eJ eW eX eY eZ e8 e9 fa fi ee dN fo fp fq ft fu fM fN fO fP fw fx fy fC fD fE fF fG fH fj fk fl fI fJ fK fL eO dV gJ gK gL gM gN:V9}
def aj3(w o rs V rv pv tv gs S d)(hC:Mj w o rs V rv pv tv gs S d)(g R c l)(hb:ky w (P (C g R G)) c l)(N)(h2:2<=Z l)(kV:Z l<=1000000000)(hN:l[1]?=P N)(aow:N<=50){Q} (T:∀v7 v8 v9 q xs(i:Nat) w2 u10 u11 u12 u13 u14 u15 u16 u17 u18 u19 u20 u21 u22 u23 u24 u25 u26 u27 u28 u29 u30 u31 u32 u33 u34 u35 u36 u37 u38 u39 u40 u41 u42 u43 u44 u45 u46 u47 u48 u49 u50 u51 u52 u53 u54 u55 u56 u57 u58 u59 u60 u61 u62 u63 u64 u65 u66 u67 u68 u69 u70 u71 u72 u73 u74 u75 u76 u77 u78 u79 u80 u81 u82 u83 u84 u85 u86 u87 u88 u89 u90 u91 u92 u93 u94 u95 u96 u97 u98 u99 e j n r y u x k K M t p D b E m L B a W A v s z u124 u125 u126 u127 u128,v9=I J i->oZ w v7 q v8 xs w2->(∀f∈q,d f.F)->Z q=N->Z xs=N->i<=Z l->gU (rs.map (·.R)) (ov V S) l N 2 [] []=P (q.map (·.F),xs.map (·.e),i)->Q (.exit 0) ⟨List.toArray (Vp (P (C o 0 G))::U (P (C g R G)) (Z l) c::c2::c3::U G 0 0::U G 0 0::Vb Bf::v7::v8::v9::u10::u11::u12::u13::u14::u15::u16::u17::u18::u19::u20::u21::u22::u23::u24::u25::u26::u27::u28::u29::u30::u31::u32::u33::u34::u35::u36::u37::u38::u39::u40::u41::u42::u43::u44::u45::u46::u47::u48::u49::u50::u51::u52::u53::u54::u55::u56::u57::u58::u59::u60::u61::u62::u63::u64::u65::u66::u67::u68::u69::u70::u71::u72::u73::u74::u75::u76::u77::u78::u79::u80::u81::u82::u83::u84::u85::u86::u87::u88::u89::u90::u91::u92::u93::u94::u95::u96::u97::u98::u99::e::j::n::r::y::u::x::k::K::M::t::p::D::b::E::m::L::B::a::W::A::v::s::z::u124::u125::u126::u127::u128::dV::gJ::gK::gL::gM::gN::[]),[]⟩ w2)(uF:∀v7 v8 v9 w2 u10 u11 u12 u13 u14 u15 u16 u17 u18 u19 u20 u21 u22 u23 u24 u25 u26 u27 u28 u29 u30 u31 u32 u33 u34 u35 u36 u37 u38 u39 u40 u41 u42 u43 u44 u45 u46 u47 u48 u49 u50 u51 u52 u53 u54 u55 u56 u57 u58 u59 u60 u61 u62 u63 u64 u65 u66 u67 u68 u69 u70 u71 u72 u73 u74 u75 u76 u77 u78 u79 u80 u81 u82 u83 u84 u85 u86 u87 u88 u89 u90 u91 u92 u93 u94 u95 u96 u97 u98 u99 e j n r y u x k K M t p D b E m L B a W A v s z u124 u125 u126 u127 u128,Below (F (X w)) w w2->gU (rs.map (·.R)) (ov V S) l N 2 [] []=G->Q .ret ⟨List.toArray (Vp (P (C o 0 G))::U (P (C g R G)) (Z l) c::c2::c3::U G 0 0::U G 0 0::Vb Bf::v7::v8::v9::u10::u11::u12::u13::u14::u15::u16::u17::u18::u19::u20::u21::u22::u23::u24::u25::u26::u27::u28::u29::u30::u31::u32::u33::u34::u35::u36::u37::u38::u39::u40::u41::u42::u43::u44::u45::u46::u47::u48::u49::u50::u51::u52::u53::u54::u55::u56::u57::u58::u59::u60::u61::u62::u63::u64::u65::u66::u67::u68::u69::u70::u71::u72::u73::u74::u75::u76::u77::u78::u79::u80::u81::u82::u83::u84::u85::u86::u87::u88::u89::u90::u91::u92::u93::u94::u95::u96::u97::u98::u99::e::j::n::r::y::u::x::k::K::M::t::p::D::b::E::m::L::B::a::W::A::v::s::z::u124::u125::u126::u127::u128::dV::gJ::gK::gL::gM::gN::[]),[]⟩ w2):Code.wp prog (Code.loop (Zd 0)) Q ⟨List.toArray (Vp (P (C o 0 G))::U (P (C g R G)) (Z l) c::c2::c3::U G 0 0::U G 0 0::Vb Bf::U G 0 0::U G 0 0::I J 2::I J 0::eM::eN::et::eu::dv::dy::eh::dn::cJ::cF::bX::bY::bZ::b7::b8::cc::cd::cg::ck::cm::cy::cz::cC::cD::cE::cK::cL::cM::cQ::cR::cS::cT::cU::cV::cW::cX::cY::cZ::da::cN::cO::de::dh::cG::dz::dA::dB::dC::dD::dE::dF::dG::dH::dO::dP::dQ::dR::ei::ev::ew::ey::ez::eP::eQ::eR::eS::eT::eU::eV::eA::eB::dW::dX::dY::eC::eD::eE::eF::eG::eH::eI::eJ::eW::eX::eY::eZ::e8::e9::fa::fi::ee::dN::fo::fp::fq::ft::fu::fM::fN::fO::fP::fw::fx::fy::fC::fD::fE::fF::fG::fH::fj::fk::fl::fI::fJ::fK::fL::eO::dV::gJ::gK::gL::gM::gN::[]),[]⟩ w:=by
 conv=>arg 2;arg 1;whnf
 obtain⟨ar,cr,rfl⟩:=aF hC.prog.bB;have mN:=ej hC.prog.bB;unfold maxLen at mN;have Wa:=hb.cap;have Cs:=hb.max;unfold maxLen at Cs;have Wu:g<F (X w):=by
  obtain⟨g',o',e,Wq,-⟩:=hb.aC O;injection e with e
  injection e with e s
  rw[e];exact Wq
 have n:∀(j:Nat)(h:j<Z l),Ce w (C g (R+j) G)=P (I .u8 (l[j]:Nat)):=by
  obtain⟨g',o',e,Wq,r⟩:=hb.aC O;injection e with e
  injection e with e s
  subst e s;exact r
 have r:Ce w (C g (R+1) G)=P (I .u8 (N:Nat)):=by rw[n 1 O];rw[dr O]at hN;rw[cI hN]
 have HCS:=H n;have Bg:=H r;have HB:=H hb;have HC:=H hC;have HX:=H T;have HY:=H uF;clear hb hC T uF n r hN;generalize n:gU (rs.map (·.R)) (ov V S) l N 2 [] []=T at HX HY;have r:=H n;clear n
 go_loopg [4,5,6,7,8,9,10] N (λv n v5 v6 v7 v8 v9 j wr=>n=U G 0 0/\v5=U G 0 0/\v6=Vb Bf/\∃(n i:Nat)(q:List FG)(xs:List EV),n<=N/\v=N-n/\v9=I J i/\j=I J n/\oZ w v7 q v8 xs wr/\(∀f∈q,d f.F)/\(Z q)=n/\(Z xs)=n/\i<=Z l/\gU (rs.map (·.R)) (ov V S) l (N-n) i (q.map (·.F)) (xs.map (·.e))=T)
 exact⟨rfl,rfl,rfl,0,2,[],[],aI _,rfl,rfl,rfl,⟨aZ _ _,⟨dm _ _ _ _,oS⟩,⟨dm _ _ _ _,oS⟩⟩,oS,rfl,rfl,h2,r⟩
 case round=>
  clear r;obtain⟨rfl,rfl,rfl,n,i,q,xs,hn,hgn,rfl,rfl,hI,hG,kK,pt,Wv,r⟩:=hrel;obtain⟨a7,c7,rfl⟩:=aF hI.bV.row;obtain⟨a8,c8,rfl⟩:=aF hI.vz.row;have HI:=H hI;have HG:=H hG;have KQ:=H r;have te:=H kK;have DD:=H pt;have k1:=(hI.ai.cell (p:=(C g (R+1) G)) Wu).trans Bg;have v:=hI.ai.size;have y:g<F (X wr):=O
  have wI:=H hI.ai
  by_cases hln:n<N
  .have vJ:(n:Int)<N:=O;have Iv:N-n=(N-(n+1))+1:=O
   by_cases qF:i<Z l
   .have u:=(hI.ai.cell (p:=(C g (R+i) G)) Wu).trans (HCS i qF);have Fc:l[i]<256:=HB.uz _ (aN qF);have ox:l[i]?=P l[i]:=dr qF;generalize l[i]=x at u Fc ox;have k:=HC.prog.kept ((ak.refl [] _).bC hI.ai) oS;have a:=k.c0;have K:=k.lt;have aoV:(i:Int)<Z l:=O;have aoU:decide (Z l<=i)=false:=oT
    by_cases IP:x<Z rs
    .have Xb:((x:Nat):Int)<Z rs:=O;have IX:decide (Z rs<=x)=false:=oT;obtain⟨gr,M0,po,NT,M,Oc,Aj,p0,A,p2,p3,p4,B⟩:=pT k.bB x IP;injection po with q1 q2 q3
     subst q1 q3;have t:=aN IP;have L:rs[x]?=P rs[x]:=dr IP;have p:=HC.prog.aK _ t;have h3:=HC.body _ t;have h4:=HC.aq _ t;have IJ:=HC.xx _ t;generalize rs[x]=j at p0 A p2 p3 p4 B p h3 h4 IJ L;have D:(rs.map (·.R))[x]?=P j.R:=(by rw[gP,L];rfl);have HRX:=H L;obtain⟨ah,ch,e⟩:=aF p.hd;obtain⟨ab,cb,s⟩:=aF p.bo;rw[e]at A;rw[s]at B;have b:=p;rw[e,s]at b;have SE:=H (b.dS (aI _))
     have W:=H (λ(hf:¬(Z l)<i+1+gD j.R.body)=>(show T=match kg (q.map (·.F)) j.R.body ((l.drop (i+1)).take (gD j.R.body)) [] with|none=>G|some E=>if dp (q.map (·.F)) (bI (bk E j.R.ay))<0 then gU (rs.map (·.R)) (ov V S) l (N-(n+1)) (i+1+gD j.R.body) (q.map (·.F)++[ov V S (bk E j.R.ay) x]) (xs.map (·.e)++[E]) else G by
      rw[<-r,Iv]
      exact aj8 ox D hf))
     have m:=H (λ(hf:Z l<i+1+gD j.R.body)=>(show T=G by
      rw[<-r,Iv]
      exact aja ox D hf))
     have Bb:=H h4;have ah0:gD j.R.body<=3:=by have z:=PS j.R.body;have h6:Z j.R.body=Z j.bs:=(by rw[p.eq,bF]);omega
     clear hI hG r kK pt k p b e s t h4 L D KQ ox;go_upto_region 7 with fail;go_quiet(fail);go_upto_region 9 with fail;have p:Below (F (X wr)) wr (wr.drewN nq):=below_drewN B9 _;replace p0:=(p.cell (p:=(C gr (x*6) G)) M).trans p0;replace A:=(p.cell (p:=(C gr (x*6+1) G)) M).trans A;replace p2:=(p.cell (p:=(C gr (x*6+2) G)) M).trans p2;replace p3:=(p.cell (p:=(C gr (x*6+3) G)) M).trans p3;replace p4:=(p.cell (p:=(C gr (x*6+4) G)) M).trans p4;replace B:=(p.cell (p:=(C gr (x*6+5) G)) M).trans B;replace a:=(p.cell (p:=(C o 0 G)) K).trans a;replace u:=(p.cell (p:=(C g (R+i) G)) y).trans u;replace K:o<(wr.drewN nq).heap.size:=K;replace y:g<(wr.drewN nq).heap.size:=y;replace M:gr<(wr.drewN nq).heap.size:=M;have z:=H (HI.zm p);clear HI k1 v wI p;generalize wr.drewN nq=wq at*
     go_cut [11] from 19 to 128 (λp wc=>∃b,p=Vp (P (C b 0 G))/\wc.heap[b]?=P (Vc #[Y j.R.ay.ax,U ah (Z j.R.ay.aq) ch,Vb j.R.ay.no,I J j.R.ay.aC,I J j.R.ay.aO,U ab (Z j.bs) cb] 246)/\(F (X wq))<=b/\Below (F (X wq)) wq wc)
     case first=>
      have e:(0:Int)<=(x:Int):=O;have D:(x:Int)<256:=O;have v:=aof x Fc;have L:(F (X wq))≠o:=O;have s:(F (X wq))≠g:=O;have d3:(F (X wq))≠gr:=O
      go_region_held3 (λt=>Ce t (C o 0 G)=P (U (P (C gr 0 G)) (Z rs) cr)/\Ce t (C g (R+i) G)=P (I .u8 (x:Nat))/\Ce t (C gr (x*6) G)=P (Y j.R.ay.ax)/\Ce t (C gr (x*6+1) G)=P (U ah (Z j.R.ay.aq) ch)/\Ce t (C gr (x*6+2) G)=P (Vb j.R.ay.no)/\Ce t (C gr (x*6+3) G)=P (I J j.R.ay.aC)/\Ce t (C gr (x*6+4) G)=P (I J j.R.ay.aO)/\Ce t (C gr (x*6+5) G)=P (U ab (Z j.bs) cb)) (go_keep) (fail)
      all_goals
       go_wp2;go_meet
       case rel=>first|exact⟨_,rfl,aG _ _,bD _,B9.drew.alloc L9 _⟩|exact⟨_,rfl,aG _ _,bD _,oA.drew⟩
     case rest=>
      generalize wc=wA at*;obtain⟨b,rfl,e,aoB,D⟩:=hcut;clear p0 A p2 p3 p4 B a;have a:=z.zm D;have Ch:=iz y D.size;have IT:=iz K D.size;have v:=(D.cell (p:=(C g (R+i) G)) y).trans u;have IB:=(aM.1 e).1;have W5:=SE.kept ((ak.refl [] _).bC a.ai) oS;have L:=alq wA 0 j.R _ j.bs _ W5 O;unfold oJ at L;have s:=H L;have A:=H a;have B:=H e;obtain⟨m0,-⟩:=aj e 0;obtain⟨m1,-⟩:=aj e 1;obtain⟨m2,-⟩:=aj e 2;obtain⟨m3,-⟩:=aj e 3;obtain⟨m4,-⟩:=aj e 4;obtain⟨m5,-⟩:=aj e 5;simp only[bt,aT,bx]at m0 m1 m2 m3 m4 m5;clear L W5 a e u z D y K M;go_upto_region 11 with(go_at_call 228;refine(s).mono ?_;rintro e wB⟨rfl,M⟩;have D:=H M;clear M);clear m0 m1 m2 m3 m4 m5 s;generalize hM:gD j.R.body=M at*;have HM:=H hM;clear hM;have u:=A.zm D
      by_cases hf:Z l<i+1+M
      .have Ad:(Z l:Int)<i+1+M:=O;have HE:=H (m hf);have wI:=H u.ai;clear u m W;go_wp2_with fail;apply HY
       .exact wI
       exact HE
      have Ad:¬((Z l:Int)<i+1+M):=O;have NO:decide (Z l<i+1+M)=false:=oT;have K:=H (W hf);have y:=(D.block _ IB).trans B;have a:=HB.ai u.ai;have s:=H a;have Sb:=H u;have L:=H y;have VX:b<F (X wB):=(aM.1 y).1;have V2:=(D.cell (p:=(C g (R+i) G)) Ch).trans v;have NQ:=iz Ch D.size;clear u m W y a v B A;go_wp2_with fail;refine aj4 wB g R c l s i M O ah0 ?_;intro v13 wC;intros;rename_i m B;obtain⟨FR,Nt⟩:∃FR,FR=(l.drop (i+1)).take M:=⟨_,rfl⟩;have u:Z FR=M:=(by rw[Nt,qk,so];omega);rw[<-Nt]at m K;obtain⟨af,cf,rfl⟩:=aF m;have v:=Sb.zm B;have y:=(B.block _ VX).trans L;have hrC:=SE.kept ((ak.refl [] _).bC v.ai) oS;have agy:Z q<=50:=(oF (ag te));have Wg:vs wC 0 j.R (U ah (Z j.R.ay.aq) ch) j.bs (U ab (Z j.bs) cb) q (U a7 (Z q) c7):=⟨hrC,v.bV.dS (aI _),agy,h3,λa W=>Bb a (bG _ W)⟩;have a:=aj2 wC 0 j.R _ j.bs _ q a7 c7 Wg FR af cf (by rw[u];exact aX m (aI _)) (by rw[u];exact(HM).symm);unfold oJ at a;rw[u]at a;have V3:=(B.cell (p:=(C g (R+i) G)) NQ).trans V2;have NR:=iz NQ B.size;have VY:b<F (X wC):=(aM.1 y).1;obtain⟨m0,-⟩:=aj y 0;obtain⟨m1,-⟩:=aj y 1;obtain⟨m2,-⟩:=aj y 2;obtain⟨m3,-⟩:=aj y 3;obtain⟨m4,-⟩:=aj y 4;obtain⟨m5,-⟩:=aj y 5;simp only[bt,aT,bx]at m0 m1 m2 m3 m4 m5;have W:=H v;have A:=H y
      have z:=H hrC;have aoq:=H u;clear m B v y hrC Wg V2 Sb L Nt u s D NQ VX Ch IT
      cases s:kg (q.map (·.F)) j.R.body FR [] with
      |none=>
       rw[s]at a K;have m:=H a;have HE:=H (show T=G from K);clear a s K;go_wp2_with(go_at_call 229;refine(m).mono ?_;rintro e wD⟨B,u⟩;obtain⟨an,D,v,cn,y,ct,rfl⟩:=B.Pu;have L:=H u;clear B u);apply HY
       .exact(W.zm L).ai.alloc (W.zm L).ai.size _
       exact HE
      |some E=>
       rw[s]at a K;have m:=H a;have R8:=H (HC.dI x j (q.map (·.F)) FR E HRX (λf hf=>by obtain⟨y,hy,rfl⟩:=aU.1 hf;exact HG y hy) s);clear a s;go_upto_region 19 with(go_at_call 229;refine(m).mono ?_;rintro e wD⟨B,u⟩;obtain⟨an,D,cn,ct,a,rfl⟩:=B.pV;have s:=H a;have L:=H u;clear B u a);generalize a:World.alloc wD _=wE;have kE:Below (F (X wD)) wD wE:=(by rw[<-a];exact B9.alloc L9 _);have u:wE.heap[F (X wD)]?=P (Vc #[U an (Z E) cn,U D (Z E) ct] 258):=(by rw[<-a];exact aG wD _);clear a;have B:=L.trans (kE.mono L.size);have VG:=W.zm B;have a:=s.ai kE;have W6:=z.kept ((ak.refl [] _).bC B) oS;have hh4:Z j.R.ay.aq<=4:=Bb _ bz;have WW:=FV wE 0 E j.R.ay an D ah cn ct ch ⟨aX a.ns (aI _),aX a.ts (aI _),a.nil⟩ W6.hd O;have Ds:=H WW;have v:=(B.block _ VY).trans A;obtain⟨q0,-⟩:=aj v 0;obtain⟨q1,-⟩:=aj v 1;obtain⟨q2,-⟩:=aj v 2;obtain⟨q3,-⟩:=aj v 3;obtain⟨q4,-⟩:=aj v 4;obtain⟨z0,-⟩:=aj u 0;obtain⟨z1,-⟩:=aj u 1;simp only[bt,aT,bx]at q0 q1 q2 q3 q4 z0 z1;have V4:=(B.cell (p:=(C g (R+i) G)) NR).trans V3;have NS:=iz NR B.size;have hCE:=B.size;have Xs:=W.ai.size;have agw:F (X wD)<F (X wE):=(aM.1 u).1;have Sd:=H VG;have zA:=H u;have R4:=H a;clear kE u B VG a W6 WW v s L m W A z V3 NR VY m0 m1 m2 m3 m4 m5
       go_upto_region 22 with(go_at_call 192;refine(Ds).mono ?_;rintro e wF⟨v,rfl,u,L⟩;obtain⟨a,m,rfl⟩:=aF u;have K7:=H u;have KF:=H L;clear u L);clear q0 q1 q2 q3 q4 z0 z1 Ds;generalize L:World.alloc wF _=u;have kG:Below (F (X wF)) wF u:=(by rw[<-L];exact B9.alloc L9 _);have B:u.heap[F (X wF)]?=P (Vc #[Y j.R.ay.ax,U a (bk E j.R.ay).aq.length m,Vb Bf,I J 0,I J 0] 243):=(by rw[<-L];exact aG wF _);clear L;have Av:=KF.trans (kG.mono KF.size);have Iu:=Sd.zm Av;have L:Ow u (F (X wE)) 317 3 (U a (bk E j.R.ay).aq.length m) (bk E j.R.ay).aq.length (cellsOf (bk E j.R.ay).aq):=aQ K7 kG (λg e=>(K7.lt g e).2);have EI:=ag R8;have k:=HC.prog.kept ((ak.refl [] _).bC Iu.ai) oS;have Oq:=HC.sf.kept ((ak.refl [] _).bC Iu.ai);have NW:=mS IJ;obtain⟨A,xq⟩:∃A:Nat,aL V j.R.ay.ax=(A:Int):=⟨_,(DK IJ).symm⟩;have vF:A<Z V:=O;have st1:=Oq.cell A vF;have Cj:=Oq.sz;have c3:=k.c3;have hoG:=k.lt;have WN:=ej k.oE
       have Bi:=H (λ(W:W8)(hW:Below (F (X u)) u W)=>(show Calls prog 135 #[Vp (P (C o 0 G)),Y j.R.ay.ax] W λe t=>e=Vr (I J (A:Nat))/\t=W from by
        have:=sP W o rs V _ _ _ _ j.R.ay.ax (k.kept ((ak.refl [] _).bC hW) oS);rw[xq]at this
        exact this))
       have EX:∀W,Below (F (X u)) u W->Calls prog 134 #[Va #[Y j.R.ay.ax,U a (bk E j.R.ay).aq.length m,Vb Bf,I J 0,I J 0]] W λe t=>∃s:B8,e=Vr (Y s)/\s.data.toList=fR (bk E j.R.ay)/\Below (F (X W)) W t:=λW hW=>uP W (F (X wE)) (bk E j.R.ay) a m Bf 0 0 (aQ L hW (λg e=>(L.lt g e).2)) EI.1
       have SJ:=H EX;have V5:=(Av.cell (p:=(C g (R+i) G)) NS).trans V4;have hgG:=iz NS Av.size;have z:F (X wF)<F (X u):=(aM.1 B).1;obtain⟨r0,-⟩:=aj B 0;obtain⟨r1,-⟩:=aj B 1;obtain⟨r2,-⟩:=aj B 2;obtain⟨r3,-⟩:=aj B 3;obtain⟨r4,-⟩:=aj B 4;simp only[bt,aT,bx]at r0 r1 r2 r3 r4
       have uV:=H (show ov V S (bk E j.R.ay) x=⟨bk E j.R.ay,bI (bk E j.R.ay),S A,0,x,[]⟩ by
        show(⟨bk E j.R.ay,bI (bk E j.R.ay),S (aL V j.R.ay.ax).toNat,0,x,[]⟩:aP)=_
        rw[xq];rfl)
       have KR:=H EI.2;have Se:=H Iu;have SA:=H L;have RZ:=H ((Av.block _ agw).trans zA);have R5:=H (R4.ai Av);have hEG:=Av.size
       have HK:Hid (∀t:W8,Below (F (X u)) u t->Ce t (C (F (X wF)) 0 G)=P (Y j.R.ay.ax)/\Ce t (C (F (X wF)) 1 G)=P (U a (bk E j.R.ay).aq.length m)/\Ce t (C (F (X wF)) 2 G)=P (Vb Bf)/\Ce t (C (F (X wF)) 3 G)=P (I J 0)/\Ce t (C (F (X wF)) 4 G)=P (I J 0)/\Ce t (C o 3 G)=P (U (P (C gs 0 G)) (Z V) (Z V))/\Ce t (C gs A G)=P (I J (S A))/\Ce t (C g (R+i) G)=P (I .u8 (x:Nat))):=H (λt hB=>by
        exact⟨(hB.cell (oU z)).trans r0,(hB.cell (oU z)).trans r1,(hB.cell (oU z)).trans r2,(hB.cell (oU z)).trans r3,(hB.cell (oU z)).trans r4,(hB.cell (oU hoG)).trans c3,(hB.cell (oU Cj)).trans st1,(hB.cell (oU hgG)).trans V5⟩)
       have HZA:Hid (((Al u (Vc #[Y ⟨#[]⟩,U G 0 0,Vb Bf,I J 0,I J 0,Y ⟨#[]⟩,I J 0,I J 0,I J 0,U G 0 0] 262)).drew).heap[F (X u)]?=P (Vc #[Y ⟨#[]⟩,U G 0 0,Vb Bf,I J 0,I J 0,Y ⟨#[]⟩,I J 0,I J 0,I J 0,U G 0 0] 262)):=H (aG u _);have EK:(A:Int)<Z V:=O;have EJ:(0:Int)<=A:=O;have db:(F (X u))≠(F (X wF)):=O;have do_:(F (X u))≠o:=O;have dgs:(F (X u))≠gs:=O;have dg:(F (X u))≠g:=O;clear kG B Av Iu L EI k Oq EX xq R8 KF K7 Sd zA R4 V4 NS NW IJ
       go_cut [18] from 19 to 128 (λp wc=>∃H4,p=Vp (P (C H4 0 G))/\sr u (Y j.R.ay.ax) (U a (bk E j.R.ay).aq.length m) (Vb Bf) (I J 0) (I J 0) (Y (bI (bk E j.R.ay))) (I J (S A)) (I J 0) (I J (x:Nat)) (U G 0 0) H4 wc)
       case first=>
        generalize L:bk E j.R.ay=B at*;have p:=H (λ(W:W8)(hW:Below (F (X u)) u W)=>(SJ W hW).mono (λe t (h:∃s:B8,e=Vr (Y s)/\s.data.toList=fR B/\Below (F (X W)) W t)=>(show e=Vr (Y (bI B))/\Below (F (X W)) W t from by obtain⟨s,rfl,W,t⟩:=h;obtain rfl:=AQ W;exact⟨rfl,t⟩)));refine aj5 u o g R (Z l) c i (F (X wF)) gs (Z V) A (S A) x (Z B.aq) m j.R.ay.ax (bI B) a Fc qF vF HK p Bi ?_;intro H4 w2;intros;rename_i hM;go_wp2;go_meet
        case rel=>exact⟨_,rfl,hM⟩
       case rest=>
        generalize wc=wH at*;obtain⟨H4,rfl,W⟩:=hcut;have p:=Se.zm W.ai;have sE:=(ag SA);have Fe:lk wH (F (X w)) ⟨⟨bk E j.R.ay,bI (bk E j.R.ay),S A,0,x,[]⟩,U a (bk E j.R.ay).aq.length m,U G 0 0⟩:=⟨aX (aQ sE W.ai (λg e=>(sE.lt g e).2)) O,dm _ _ _ _⟩;have VC:wH.heap[F (X wD)]?=P (Vc #[U an (Z E) cn,U D (Z E) ct] 258):=(W.ai.block _ O).trans RZ;have Xy:jz wH (F (X w)) E (U an (Z E) cn) (U D (Z E) ct):=by have:=R5.ai W.ai;exact⟨aX this.ns Xs,aX this.ts Xs,this.nil⟩
        have L:=yK wH 0 a7 c7 q (bI (bk E j.R.ay)) (aX p.bV.row (aI _));obtain⟨u0,-⟩:=aj W.blk 0;obtain⟨u1,-⟩:=aj W.blk 1;obtain⟨u2,-⟩:=aj W.blk 2;obtain⟨u3,-⟩:=aj W.blk 3;obtain⟨u4,-⟩:=aj W.blk 4;obtain⟨u5,-⟩:=aj W.blk 5;obtain⟨u6,-⟩:=aj W.blk 6;obtain⟨u7,-⟩:=aj W.blk 7;obtain⟨u8,-⟩:=aj W.blk 8;obtain⟨u9,-⟩:=aj W.blk 9;simp only[bt,aT,bx]at u0 u1 u2 u3 u4 u5 u6 u7 u8 u9;have s:=H L;have t:=H p;have zI:=H Fe;have zB:=H VC;have Lr:=H Xy;clear W p sE Fe VC Xy L HK HZA SJ Bi r0 r1 r2 r3 r4 c3 st1 V5 Se SA RZ R5;generalize p:bk E j.R.ay=B at*;have L:B.no=Bf/\B.aC=0/\B.aO=0/\B.ax=j.R.ay.ax:=(by rw[<-p];exact⟨rfl,rfl,rfl,rfl⟩);have uU:=H L;clear p L
        by_cases NO:dp (q.map (·.F)) (bI B)<0
        .have HT2:=H (show gU (rs.map (·.R)) (ov V S) l (N-(n+1)) (i+1+M) ((q.map (·.F))++[(⟨B,bI B,S A,0,x,[]⟩:aP)]) (xs.map (·.e)++[E])=T by
          rw[ag K]
          rw[aD NO,ag uV])
         have abU:=H (show d ⟨B,bI B,S A,0,x,[]⟩ by rw[<-ag uV];exact KR);obtain⟨i0,sF,gB,dx,cB⟩:=info_parts I2;obtain⟨j0,NY,Fg,CA,OB⟩:=info_parts ahe;generalize dp (q.map (·.F)) (bI B)=f1 at*;have W:FG.cells ⟨⟨B,bI B,S A,0,x,[]⟩,U a (Z B.aq) m,U G 0 0⟩=[Y j.R.ay.ax,U a (Z B.aq) m,Vb Bf,I J 0,I J 0,Y (bI B),I J (S A),I J 0,I J (x:Nat),U G 0 0]:=by obtain⟨L,h2,h3,h4⟩:=uU;simp only[FG.cells,L,h2,h3,h4];rfl
         have Dj:=H W;have L:=t.bV.row.alloc (Vc #[Y j.R.ay.ax,U a (Z B.aq) m,Vb Bf,I J 0,I J 0,Y (bI B),I J (S A),I J 0,I J (x:Nat),U G 0 0] 262);have p:=H (World.news_of_block (aG wH (Vc #[Y j.R.ay.ax,U a (Z B.aq) m,Vb Bf,I J 0,I J 0,Y (bI B),I J (S A),I J 0,I J (x:Nat),U G 0 0] 262)));have hwH:=t.ai.size;clear W K uV KR;go_upto_region 25 with(go_at_call 133;refine(s).mono ?_;rintro e w4⟨rfl,E7⟩;have vL:=E7.symm;subst vL;clear E7);go_upto_region 26 with(at_builtin;refine ka _ rfl _ _ 250 rfl (F (X w)) 262 i0 _ 10 128 underlying250 sF gB dx cB rfl oD _ _ _ rfl L (C (F (X wH)) 0 G) 1 1 [Y j.R.ay.ax,U a (Z B.aq) m,Vb Bf,I J 0,I J 0,Y (bI B),I J (S A),I J 0,I J (x:Nat),U G 0 0] rfl rfl p (by simp[Value.oneCell']) oM O oT ?_;intro v5 w5 W Cg agS;clear agS;obtain⟨a5,aou,rfl⟩:=aF W;have Gt:=H W;have Gl:=H Cg;clear W Cg);have W:=oZ.pc (x:=⟨⟨B,bI B,S A,0,x,[]⟩,U a (Z B.aq) m,U G 0 0⟩) t zI ((ak.refl [] _).alloc _) Gl (by rw[ag Dj];exact Gt);have Nr:=t.ahw ((ak.refl [] _).alloc _) Gl zB oD;have VN:=t.ahv ((ak.refl [] _).alloc _) Gl Lr;obtain⟨y0,-⟩:=aj Nr 0;obtain⟨y1,-⟩:=aj Nr 1;simp only[bt,aT,bx]at y0 y1;have agY:=W.vz.row.alloc (Vc #[U an (Z E) cn,U D (Z E) ct] 258);have agT:=H (World.news_of_block (aG w5 (Vc #[U an (Z E) cn,U D (Z E) ct] 258)))
         have HI5:=H W;have HX5:=H VN;have apm:=W.ai.size;have apr:Z xs<=50:=(oF (ag DD));clear W Nr VN L p u0 u1 u2 u3 u4 u5 u6 u7 u8 u9 t zI Gt Gl zB Lr s;go_wp2_with(at_builtin;refine ka _ rfl _ _ 318 rfl (F (X w)) 258 j0 _ 2 48 underlying318 NY Fg CA OB rfl oD _ _ _ rfl agY (C (F (X w5)) 0 G) 1 1 [U an (Z E) cn,U D (Z E) ct] rfl rfl agT (by simp[Value.oneCell']) oM O oT ?_;intro v6 w6 W p L;clear L;obtain⟨a6,aov,rfl⟩:=aF W;have HO6:=H W;have L:=H p;clear W p);go_roundg(N-(n+1))
         case measure=>omega
         case rel=>
          have p:=oZ.acZ (x:=⟨E,U an (Z E) cn,U D (Z E) ct⟩) HI5 HX5 ((ak.refl [] _).alloc _) L HO6;refine⟨rfl,rfl,rfl,n+1,i+1+M,_,_,O,rfl,oN,oN,p,λf hf=>?_,by rw[br,ag te];rfl,by rw[br,ag DD];rfl,O,?_⟩
          .rcases aS.1 hf with hf|hf
           .exact HG f hf
           rw[bu.1 hf];exact abU
          have:=ag HT2;rw[fg,fg];exact this
        have HE:=H (show T=G by
         rw[ag K]
         rw[aB NO])
        have p:(0:Int)<=dp (q.map (·.F)) (bI B):=O;have L:=H t.ai;generalize dp (q.map (·.F)) (bI B)=f1 at*;clear K uV KR zI Lr zB;go_wp2_with(go_at_call 133;refine(s).mono ?_;rintro e w4⟨rfl,E7⟩;have vL:=E7.symm;subst vL;clear E7);apply HY
        .exact L
        exact HE
    have IX:decide (Z rs<=x)=true:=oT;have HE:=H (show T=G by rw[<-ag KQ,Iv];exact ajb ox (oU (L5 IP)));clear hI hG r kK pt k ox;go_upto_region 7 with fail;go_quiet(fail);go_wp2_with fail;apply HY
    .exact below_drewN wI _
    exact HE
   have x:decide (Z l<=i)=true:=oT;have HE:=H (show T=G by rw[<-ag KQ,Iv];exact aj9 (L5 qF));clear hI hG r kK pt;go_upto_region 7 with fail;go_quiet(fail);go_wp2_with fail;apply HY
   .exact below_drewN wI _
   exact HE
  have x:n=N:=O
  have vJ:¬(n:Int)<N:=O
  have HE:=H (show T=P (q.map (·.F),xs.map (·.e),i) by rw[<-r,x,Nat.sub_self];rfl);subst x;clear hI r kK pt hG;go_wp2_with fail;apply HX
  .rfl
  .exact HI
  .exact HG
  .exact te
  .exact DD
  .exact Wv
  exact HE
def aau(b:List PR):∀(q:List (Nat×List Nat))(st a:List gR),lK b q st=P a->∃q,a=st++q
 | [],st,a,h=>⟨[],by rw[kO];exact(cI h).symm⟩
 |x::r,st,a,h=>by
  rw[lK]at h
  split at h
  .cases h
  split at h
  .cases h
  obtain⟨q,a⟩:=aau b r _ _ h;exact⟨_,by rw[a,qT]⟩
structure D0(ps:P9)(rp:List PR)(l:List aP)(es:List ec)(st:List gR):Prop where
 th:l.map (λf=>bp f.aH)=st.map (·.t)
 en:es=st.map (·.e)
 ru:l.map (λf=>rp[f.r]?)=st.map λs=>P s.r
 dI:∀f∈l,il ps (bp f.aH)
 text:∀f∈l,f.text=ep (bp f.aH)
 nd:(st.map (·.t)).Nodup
def acm(rp:List PR)(r:Option (List (Nat×List Nat)))(st:List gR):Prop:=r=G\/∃ns,r=P ns/\(lK rp ns st=G\/∃st',lK rp ns st=P st'/\¬(st'.map (·.t)).Nodup)
def Pr{ps:P9}{x:List bg}{g:List PR}(hR:qu ps x g)(hI:yj x g){d:aR->Nat->aP}(hF:∀A r,(d A r).aH=A/\(d A r).text=bI A/\(d A r).r=r)(b:List Nat):∀(n i:Nat)(l:List aP)(o:List ec)(m:List gR),i<=Z b->D0 ps g l o m ->
  (∀v A s,gU x d b n i l o=P (v,A,s)->s=Z b->∃u w,kM (iv g) n (b.drop i)=P u/\lK g u m=P w/\D0 ps g v A w) /\
  ((∀v A s,gU x d b n i l o=P (v,A,s)->s≠(Z b))->acm g (kM (iv g) n (b.drop i)) m)
 | 0,i,l,o,m,hi,hN=>by
  constructor
  .intro v A s h hl;obtain⟨rfl,rfl,rfl⟩:l=v/\o=A/\i=s:=by simpa[gU]using h
   exact⟨[],m,by rw[GL O];rfl,rfl,hN⟩
  intro h;have:=h l o i rfl
  left
  rw[dM O];rfl
 |n+1,i,l,o,m,hi,hN=>by
  cases L:b[i]? with
  |none=>have V:b.drop i=[]:=GL (Ta.1 L);have z:gU x d b (n+1) i l o=none:=(by rw[gU,L]);refine⟨λv A s h=>(by rw[z]at h;cases h),λ_=>.inl ?_⟩;rw[V];rfl
  |some r=>
   obtain⟨mM,hbr⟩:=qj.1 L;have V:b.drop i=r::b.drop (i+1):=by rw[dM mM,hbr]
   cases k:x[r]? with
   |none=>
    have z:gU x d b (n+1) i l o=none:=(by rw[gU,L];simp only[k]);have T:(iv g)[r]?=none:=by rw[Ta]at k⊢;unfold iv;rw[bF,<-hI.len];exact k
    refine⟨λv A s h=>(by rw[z]at h;cases h),λ_=>.inl ?_⟩;rw[V,kM];simp only[T]
   |some R=>
    obtain⟨W,hrR⟩:=qj.1 k;have B:r<Z g:=(by rw[<-hI.len];exact W);have hrel:nD R g[r]:=(by rw[<-hrR];exact hI.aC r W B);have hg:=hR.dI _ (aN B);have N:g[r]?=P g[r]:=dr B;have EP:(aY g[r].bs).length=gD R.body:=(by rw[hrel.pos];unfold kL gD;rw[bF]);have T:(iv g)[r]?=P (gD R.body):=by unfold iv;rw[gP,N,ve,EP]
    by_cases q:Z b<i+1+gD R.body
    .have z:gU x d b (n+1) i l o=none:=(by rw[gU,L];simp only[k];rw[aD q]);refine⟨λv A s h=>(by rw[z]at h;cases h),λ_=>.inl ?_⟩;rw[V,kM];simp only[T];rw[aD (by rw[so];omega)]
    have M:kM (iv g) (n+1) (b.drop i)=match kM (iv g) n (b.drop (i+1+gD R.body)) with|none=>G|some u=>P ((r,(b.drop (i+1)).take (gD R.body))::u):=by
     rw[V,kM];simp only[T];rw[aB (by rw[so];omega),List.drop_drop]
     all_goals(cases kM (iv g) n (b.drop (i+1+gD R.body))<;>rfl)
    have S:kg l R.body ((b.drop (i+1)).take (gD R.body)) []=lV (aY g[r].bs) ((b.drop (i+1)).take (gD R.body)) (m.map (·.t)) []:=by rw[hrel.pos,<-hN.th];exact Po hN.dI R.body _ [] (hrel.body hg) B5
    have j:∀u,lK g ((r,(b.drop (i+1)).take (gD R.body))::u) m=match lV (aY g[r].bs) ((b.drop (i+1)).take (gD R.body)) (m.map (·.t)) [] with|none=>G|some e=>lK g u (m++[⟨g[r],e,bM e (cq g[r])⟩]):=λu=>by
     rw[lK];simp only[N]
     all_goals(cases lV (aY g[r].bs) ((b.drop (i+1)).take (gD R.body)) (m.map (·.t)) []<;>rfl)
    cases D:lV (aY g[r].bs) ((b.drop (i+1)).take (gD R.body)) (m.map (·.t)) [] with
    |none=>
     have z:gU x d b (n+1) i l o=none:=(by rw[gU,L];simp only[k];rw[aB q,S,D]);refine⟨λv A s h=>(by rw[z]at h;cases h),λ_=>?_⟩;rw[M]
     cases hq:kM (iv g) n (b.drop (i+1+gD R.body)) with
     |none=>exact .inl rfl
     |some u=>exact .inr ⟨_,rfl,.inl (by rw[j,D])⟩
    |some E=>
     have ah6:=hg.qb (K:=(m.map (·.t)).map λt=>(t,0)) (λp T=>by
      obtain⟨t,D,rfl⟩:=aU.1 T;rw[<-hN.th]at D;obtain⟨f,p,rfl⟩:=aU.1 D
      exact hN.dI f p) (QV _ _ _ _ _ D)
     have Q:bp (bk E R.ay)=bM E (cq g[r]):=(by rw[uS,hrel.hd]);have Xn:il ps (bp (bk E R.ay)):=(by rw[Q];exact ah6.hd);have y:dp l (bI (bk E R.ay))<0↔bM E (cq g[r])∉m.map (·.t):=by
      rw[yL,<-hN.th,sU,<-Q]
      constructor
      .intro h K;obtain⟨f,p,e⟩:=aU.1 K;exact h f p (by rw[hN.text f p,e])
      intro h f p e;rw[hN.text f p]at e;exact h (aU.2 ⟨f,p,zq (hN.dI f p).w Xn.w e⟩)
     by_cases K:dp l (bI (bk E R.ay))<0
     .have z:gU x d b (n+1) i l o=gU x d b n (i+1+gD R.body) (l++[d (bk E R.ay) r]) (o++[E]):=by
       rw[gU,L];simp only[k];rw[aB q,S,D];simp only;rw[aD K]
      obtain⟨f1,f2,f3⟩:=hF (bk E R.ay) r;have hN':D0 ps g (l++[d (bk E R.ay) r]) (o++[E]) (m++[⟨g[r],E,bM E (cq g[r])⟩]):=by
       refine⟨?_,?_,?_,λf p=>?_,λf p=>?_,?_⟩
       .rw[fg,fg,hN.th];simp[f1,Q]
       .rw[fg,<-hN.en];rfl
       .rw[fg,fg,hN.ru];simp[f3,N]
       .rcases aS.1 p with p|p
        .exact hN.dI f p
        rw[bu.1 p,f1];exact Xn
       .rcases aS.1 p with p|p
        .exact hN.text f p
        rw[bu.1 p,f1,f2,sU]
       rw[fg,pF];refine⟨hN.nd,oS,λa ha c hc=>?_⟩;have hc:c=bM E (cq g[r]):=(oU hc);rw[hc];intro e;rw[e]at ha;exact y.1 K ha
      obtain⟨h1,h2⟩:=Pr hR hI hF b n (i+1+gD R.body) _ _ _ O hN';rw[z,M]
      constructor
      .intro v A s h hl;obtain⟨u,w,a,e2,e3⟩:=h1 v A s h hl;exact⟨_,w,by rw[a],by rw[j,D];exact e2,e3⟩
      intro h;rcases h2 h with e|⟨u,a,e2⟩
      .exact .inl (by rw[e])
      refine .inr ⟨_,by rw[a],?_⟩;rw[j,D];exact e2
     have z:gU x d b (n+1) i l o=none:=by rw[gU,L];simp only[k];rw[aB q,S,D];simp only;rw[aB K]
     refine⟨λv A s h=>(by rw[z]at h;cases h),λ_=>?_⟩;rw[M]
     cases hq:kM (iv g) n (b.drop (i+1+gD R.body)) with
     |none=>exact .inl rfl
     |some u=>
      refine .inr ⟨_,rfl,?_⟩;rw[j,D];simp only
      cases hs:lK g u (m++[⟨g[r],E,bM E (cq g[r])⟩]) with
      |none=>exact .inl rfl
      |some w=>
       refine .inr ⟨w,rfl,λn=>?_⟩;obtain⟨_,rfl⟩:=aau g u _ _ hs;rw[fg,pF]at n;have n:=n.1;rw[fg,pF]at n;have a:bM E (cq g[r])∈m.map (·.t):=by refine LF λc=>K (y.2 c)
       exact n.2.2 _ a _ oS rfl
structure BT(ps:P9)(rp:List PR)(s:gR):Prop where
 cH:s.r∈rp
 qb:Mt ps s.r s.e
 th:s.t=bM s.e (cq s.r)
variable {a:P9}{b:List PR}
def BT.ti{s}(h:BT a b s):il a s.t:=by rw[h.th];exact h.qb.hd
def an6(f:∀r∈b,kD a r){c:List gR}(i:∀s∈c,BT a b s){R}(g:R∈b){d e}(h:lV (aY R.bs) d (c.map (·.t)) []=P e):Mt a R e:=
 (f R g).qb (K:=(c.map (·.t)).map λt=>(t,0)) (λp r=>by
  obtain⟨t,j,rfl⟩:=aU.1 r;obtain⟨s,p,rfl⟩:=aU.1 j
  exact(i s p).ti) (QV _ _ _ _ _ h)
def J2(c:∀r∈b,kD a r):∀(h:List (Nat×List Nat))(st r:List gR),(∀s∈st,BT a b s)->lK b h st=P r->∀s∈r,BT a b s
 | [],st,r,hs,h=>by
  obtain rfl:=cI h;exact hs
 |x::q,st,r,hs,h=>by
  rw[lK]at h
  split at h
  .cases h
  rename_i R d
  split at h
  .cases h
  rename_i e f;refine J2 c q _ r (λs r=>?_) h;rcases aS.1 r with r|r
  .exact hs s r
  rw[bu.1 r];exact⟨tg d,an6 c hs (tg d) f,rfl⟩
end
section
section
open Go.RowKit Go.Maps
attribute [local go_sem ↓] tW tX wj tF pB qa p9 pY
attribute [local go_sem] Oper.semAt_some
attribute [local go_sem] ux xJ sT sR
structure tC(w:W8)(r:PR)(ah ab:O8)(ch cb mb:Nat)(K:List (Th×Nat))(wr:W8):Prop where
 rb:wr.heap[F (X w)]?=P (Vc #[Y r.R.pd,U ah (Z r.R.ts) ch,U ab (Z r.bs) cb] 123)
 Jf:wr.heap[F (X w)+1]?=P (Vc #[.map (P mb)] 82)
 fb:wr.heap[F (X w)+1+1]?=P (Vc #[Vb Bf] 4)
 k:Below (F (X w)) w wr
 m:bQ wr mb K
 ml:mb<F (X w)
variable{a:List (Th×Nat)}{b c d:Nat}{e f:O8}{g:PR}{h i j:W8}
def tC.grown(x:tC h g f e b c d a i){row}(r:i.grownBy j row)(l:∀K,row=P K->F (X h)+1+1<K):tC h g f e b c d a j:=by
 have k:∀K,K<=F (X h)+1+1->j.heap[K]?=i.heap[K]?:=λK wr=>r.block K (oF ((aM.1 x.fb).1)) (λw=>by have:=l K w.symm;omega)
 have w:=x.ml;exact⟨(k _ O).trans x.rb,(k _ O).trans x.Jf,(k _ O).trans x.fb,⟨r.os.trans x.k.os,r.tape.trans x.k.tape,r.output.trans x.k.output,bf x.k.size r.size,λK wr=>(k K O).trans (x.k.block K wr)⟩,x.m.block (k _ O),x.ml⟩
def tC.ai(x:tC h g e f d c b a i)(k:Below (F (X i)) i j):tC h g e f d c b a j:=x.grown (row:=G) ⟨k.os,k.tape,k.output,k.size,λr w _=>k.block r w⟩ (λ_ w=>by cases w)
def tC.start(w r c b e d a K)(f:bQ w a K):tC w r c b e d a K (Al (Al (Al w (Vc #[Y r.R.pd,U c (Z r.R.ts) e,U b (Z r.bs) d] 123)) (Vc #[.map (P a)] 82)) (Vc #[Vb Bf] 4)):=by
 have g:Below (F (X w)) w (Al (Al (Al w (Vc #[Y r.R.pd,U c (Z r.R.ts) e,U b (Z r.bs) d] 123)) (Vc #[.map (P a)] 82)) (Vc #[Vb Bf] 4)):=(((aZ (F (X w)) w).alloc L9 _).alloc oS _).alloc oW _;refine⟨?_,?_,?_,g,f.block (g.block _ f.lt),f.lt⟩
 .rw[aW _ _ _ oW,aW _ _ _ oS];exact aG w _
 .rw[aW _ _ _ oS];have:=aG (Al w (Vc #[Y r.R.pd,U c (Z r.R.ts) e,U b (Z r.bs) d] 123)) (Vc #[.map (P a)] 82);rw[bL]at this;exact this
 have:=aG (Al (Al w (Vc #[Y r.R.pd,U c (Z r.R.ts) e,U b (Z r.bs) d] 123)) (Vc #[.map (P a)] 82)) (Vc #[Vb Bf] 4);rw[bL,bL]at this;exact this
def AX(K:List (Th×Nat))(r:PR):Prop:=∀e∈jn K (jj r.bs) (aY r.bs) [],bM e (cq r)∈K.map (·.1)
def alW(w b d r K)(a:l6 w b r)(Q:bQ w d K)(s:Hl K r):Calls prog 224 #[Va #[Y r.R.pd,r.hv,r.bv],.map (P d)] w λe w'=>Below w.heap.size w w'/\∃c,e=Vr (Vb c)/\(c=Bt↔AX K r):=by
 obtain⟨j,k,l⟩:=aF a.hd;obtain⟨z,L,h⟩:=aF a.bo.row;rw[l,h];have qf:=H a;have HM:=H Q;have f:=H s;have zB:=H l;have zA:=H h;have pk:=Q.lt;clear a Q s l h;refine callsIn_wide.1 (callsIn_of_wp_marks (F:=Fence.wide) (n:=5) func224 rfl trivial (wpIn_wide.2 ?_) rfl);simp only[ntmps224,G1,ff,kB,Nat.reduceAdd,Nat.reduceSub,GG,GH,GZ,GJ,ql,jA];go_upto_region 1 with fail;generalize l:World.alloc (World.alloc (World.alloc w _) _) _=w0;have a:tC w r j z k L d K w0:=by rw[<-l];exact tC.start w r j z k L d K HM
 have s:w0.heap.size=w.heap.size+1+1+1:=by rw[<-l];simp
 clear l;have t:=(aj a.rb 0).1;have E:=(aj a.rb 1).1;have o:=(aj a.rb 2).1;have y:=(aj a.Jf 0).1;simp only[bt,aT,bx]at t E o y;have l:=qf.bo.ai a.k;rw[ag zA]at l;have hA:xd (λ_=>False) w0 d (U j (Z r.R.ts) k) (U z (Z r.bs) L) b r.bs K:=⟨l,a.m,λh=>h,λ_ _ _ _ h=>h,λ_ h=>h.elim,f.l3,f.t4,_,_,_,rfl⟩;have HW:=H (abr _ w0 d r.R.pd _ _ b r.bs K hA);have yd:=H a;have oa:=H s;clear a hA l s;go_wp2_with(go_at_call 145;refine(HW).mono ?_;rintro en w1⟨rb,xb,eb,rfl,l,s⟩;have oR:=H l;have DB:=H s;clear l s);have l:=ag oR;have a:=yd.ai l;have v:=H (show w.heap.size+1+1<w1.heap.size by have:=l.size;have:=ag oa;omega);have EB:=ag v;have s:=ag DB;have ku:=f.neg;clear t E o y l;refine(wpIn_wide (n:=5)).1 ?_;refine wpIn_rangeFunc_ownH (α:=kS K r.bs []) rfl O (gf:=233) (lb:=#[Vp (P (C rb 0 G)),Vp (P (C xb 0 G)),Vp (P (C eb 0 G))]) rfl trivial (enters_of func233 oK rfl)
  (apv _ _ w1 rb xb eb d r.R.pd _ _ b r.bs K [] s ku (iY.nil _)) (λE t=>bU.trans E t) (λW l o n _ p hc y=>I7 W l o n p hc y) B9 (λ_=>rfl)
  (λ(o:List (kS K r.bs []))(W:W8)=>tC w r j z k L d K W/\w1.heap.size<=W.heap.size/\∀y∈o,bM y.1 (cq r)∈K.map (λp:Th×Nat=>p.1))
  (λ(c:Code)(_:List (kS K r.bs []))(W:W8)=>c=.ret/\tC w r j z k L d K W/\¬AX K r)
  (λo A B T p N n=>let ⟨E,t,h3⟩:=p;⟨E.grown N (λi e=>by have:=(n i e).1;omega),bf t N.size,h3⟩)
  (λc o A B T p N n=>let ⟨E,t,h3⟩:=p;⟨E,t.grown N (λi e=>by have:=(n i e).1;omega),h3⟩)
  ⟨a,bD _,oS⟩
  (λ(x:kS K r.bs [])(a':Act)(W:W8)=>∃u,w1.heap.size<=u/\BV W u x.1/\a'={ tmps:=List.toArray ((Va #[Y r.R.pd,U j (Z r.R.ts) k,U z (Z r.bs) L])::(Value.map (P d))::(Vp (P (C w.heap.size 0 G)))::(Vp (P (C (w.heap.size+1) 0 G)))::(Vp (P (C (w.heap.size+1+1) 0 G)))::(Vp (P (C u 0 G)))::undef::undef::(Va #[Y r.R.pd,U j (Z r.R.ts) k,U z (Z r.bs) L])::(Value.map (P d))::(Value.func (.func 233) #[] #[Vp (P (C rb 0 G)),Vp (P (C xb 0 G)),Vp (P (C eb 0 G))])::(ig x.1)::List.replicate 11 undef),defers:=[] })
  (λx a' _ A B T p N n=>let ⟨u,E,t,h3⟩:=p;⟨u,E,t.grown N (λi e=>(n i e).2),h3⟩)
  ?assign ?body ?done ?stop
 case assign=>
  intro l o x W K2 n E;have t:=H E;have A:=H n;have hz:=n.2.1;clear E n
  gi_wp2
  exact t _ _ ((KeepsOthers.alloc _ _).from _) ((bU.refl _ _).alloc _) ⟨A.1.grown (BI W _ G) (λ_ e=>by cases e),oT,A.2.2⟩ ⟨W.heap.size,hz,BV.new _ _,rfl⟩
 case body=>
  rintro l o x a' W N6-⟨A,hz,t⟩ ⟨u,_,N,rfl⟩ -;obtain⟨T,n⟩:∃T,T=bM x.1 (cq r):=⟨_,rfl⟩;have R:=(gI.1 x.2).1;have hT:fY T:=by rw[n];exact(f).hd x.1 R
  have Oz:=f.len x.1 R;have D:Ow w b 191 1 (U j (cq r).ts.length k) (cq r).ts.length ((cq r).ts.map kx):=by have:=qf.hd;rw[ag zB]at this;exact this
  have ud:=H (λ(V:W8)(B:Below W.heap.size W V)=>CX V b x.1 (cq r) j k (aQ D (A.k.trans (B.mono A.k.size)) (λg e=>(D.lt g e).2)) f.h4 Oz);rw[<-n]at ud;obtain⟨S,M⟩:∃S:W8->Prop,S=λV=>∀i,i<W.heap.size->V.heap[i]?=W.heap[i]?:=⟨_,rfl⟩
  have g:=H (λ(V:W8)(B:S V)=>(show V.cell? (C (w.heap.size+1) 0 G)=P (.map (P d))/\BV V u x.1/\bQ V d K/\V.cell? (C w.heap.size 0 G)=P (Y r.R.pd)/\V.cell? (C w.heap.size 1 G)=P (U j (Z r.R.ts) k) from by
   rw[M]at B;have q:=(B _ (aM.1 A.rb).1).trans A.rb
   exact⟨(aj ((B _ (aM.1 A.Jf).1).trans A.Jf) 0).1,(B _ N.lt).trans N,A.m.block (B _ A.m.lt),(aj q 0).1,(aj q 1).1⟩))
  have wJ:=H (λ(V:W8)(B:Below W.heap.size W V)=>(show S V from by rw[M];exact λi q=>B.block i q));have m:=ag wJ W.drew B9.drew;have HL:=H A;have ac1:=H t;have yh:=H n;clear A t n R D M N
  gi_upto_region 3 with fail
  refine P7 S oK oK (λ⟨_,_,h⟩=>h) ?_;refine K9 0 (.map (P d)) rfl (Or.inl ⟨by rfl,λV B=>by obtain⟨m4,b4,n,N,R⟩:=ag g V B;go_simp⟩) m ?_;refine K9 1 (ig x.1) rfl (Or.inl ⟨by rfl,λV B=>by obtain⟨m4,b4,n,N,R⟩:=ag g V B;have ld:=b4.load;go_simp⟩) m ?_;refine K9 2 (Vp (P (C w.heap.size 0 G))) rfl oG m ?_;refine K9 3 (Va #[Y r.R.pd,U j (Z r.R.ts) k]) rfl (Or.inl ⟨by rfl,λV B=>by obtain⟨m4,b4,n,N,R⟩:=ag g V B;go_simp⟩) m ?_;refine wpAnyH_ready (rs:=[4]) oK oS ?_;refine AllReadyH.cons rfl (λK2 E=>?_) AllReadyH.nil
  go_simp
  refine(ud _ B9.drew).mono ?_;rintro en w4⟨uB,rfl⟩;have M:=jB uB;have D:=ag wJ w4 M;have t:=H M;refine E.out _ _ D (λ_=>?_);clear E K2 uB M;obtain⟨c,hc⟩:∃c,c=(bK K T).isSome:=⟨_,rfl⟩;refine K9 5 (Vt #[I J (((bK K T).getD 0:Nat):Int),Vb c]) rfl (Or.inl ⟨by rfl,λV B=>by obtain⟨m4,b4,n,N,R⟩:=ag g V B;have Ys:=n.look hT underlying82;rw[<-hc]at Ys;go_simp⟩) D ?_;have HC:=H hc;clear hc;refine K9 6 (Vt #[I J (((bK K T).getD 0:Nat):Int),Vb c]) rfl oG D ?_;refine K9 7 (I J (((bK K T).getD 0:Nat):Int)) rfl oG D ?_;refine K9 8 (Vb c) rfl oG D ?_;refine K9 9 (I J (((bK K T).getD 0:Nat):Int)) rfl oG D ?_;refine K9 10 (Vb c) rfl oG D ?_;refine wpAnyH_done oK ?_ _;have B:=ag t;have M:=HL.ai B;have Af:KeepsFrom w1.heap.size W w4:=(KeepsOthers.of_grownBy (row:=G) ⟨B.os,B.tape,B.output,B.size,λi q _=>B.block i q⟩ (λ_ _ e=>by cases e)).from _
  have Si:=H Af;have E:=H M;obtain⟨l9,z9⟩:=aj M.fb 0;simp only[bt,aT]at l9;clear B M Af D m
  cases m:c with
  |true=>
   rw[m]at HC
   gi_wp2
   refine⟨Si,bU.bC t,E,bf hz t.size,λy D=>?_⟩;rcases aS.1 D with D|D
   .exact ac1 y D
   rw[bu.1 D,<-ag yh];exact xA.1 HC.symm
  |false=>
   rw[m]at HC
   gi_wp2
   rw[QE E.fb rfl];refine⟨Si,rfl,E,λhA=>?_⟩;have:=xA.2 (hA x.1 x.2);rw[<-ag yh,<-ag HC]at this
   cases this
 case done=>
  rintro D M W N E⟨A,hz,n⟩ S;have g:=H (show AX K r from λe m=>n ⟨e,m⟩ (E _));have HL:=H A;have m:=H N;have t:=H S;obtain⟨l9,z9⟩:=aj A.fb 0;simp only[bt,aT]at l9;clear A N S E n;go_wp2_with fail;have n:=ag m;have V:=ag v;refine zi [D] _ oS (λE R=>?_) (λw' p=>?_)
  .rw[bu.1 R,cx _ _ _ _ oT];exact t
  have T:∀i,i<=w.heap.size+1+1->i∉[D]:=λi q Q=>by have:=bu.1 Q;omega
  have y:Ce w' (C (w.heap.size+1+1) 0 G)=P (Vb Bt):=by rw[j8 (by exact p.block (w.heap.size+1+1) (T _ O)),BH _ _ _ (by rw[l9];rfl)]
  have A:=ag HL;refine⟨Vb Bt,by simp[results,results224,go_sem,y],⟨p.os.trans A.k.os,p.tape.trans A.k.tape,p.output.trans A.k.output,by rw[p.size];simp;exact A.k.size,λi q=>?_⟩,Bt,rfl,⟨λ_=>g,λ_=>rfl⟩⟩;rw[p.block i (T i O),cx _ _ _ _ oT];exact A.k.block i q
 case stop=>
  rintro D c o W N-⟨rfl,A,T⟩ S;have HL:=H A;have m:=H N;have t:=H S;have n:=H T;clear A N S T
  gi_wp2
  have A:=ag HL;have N:=ag m;have V:=ag v;refine zi [D] _ oS (λE R=>?_) (λw' p=>?_)
  .rw[bu.1 R];exact t
  have T:∀i,i<=w.heap.size+1+1->i∉[D]:=λi q Q=>by have:=bu.1 Q;omega
  have y:Ce w' (C (w.heap.size+1+1) 0 G)=P (Vb Bf):=(aj ((p.block (w.heap.size+1+1) (T _ O)).trans A.fb) 0).1;exact⟨Vb Bf,by simp[results,results224,go_sem,y],⟨p.os.trans A.k.os,p.tape.trans A.k.tape,p.output.trans A.k.output,by rw[p.size];exact A.k.size,λi q=>(p.block i (T i O)).trans (A.k.block i q)⟩,Bf,rfl,⟨λh=>(by cases h),λh=>absurd h n⟩⟩
end
open Go.RowKit
def hZ(s:gR):V8:=s.r.cells++(CJ s.e++bP s.t)
def pX(s:gR):V9:=Va (hZ s).toArray
def abC:PR:=⟨⟨⟨#[]⟩,[],[]⟩,U G 0 0,[],U G 0 0⟩
def nY:gR:=⟨abC,[],(⟨#[]⟩,[])⟩
def aaq(s):(hZ s).length=33:=rfl
def OF:(prog.info? 352).map (·.size)=P 33:=oK
def aar(s)(h:s.r.hv.oneCell'=Bt/\s.r.bv.oneCell'=Bt):(hZ s).toArray.all (·.oneCell')=true:=by have a:=h.1;have b:=h.2;simp[hZ,PR.cells,CJ,bP,Value.oneCell']at a b⊢;exact⟨a,b⟩
noncomputable def C8(v:V9):Sem V9:=Instr.loadAt 352 v
noncomputable def JZ(p v:V9):Sem Unit:=Instr.storeAt 352 p v
noncomputable def QH(h:Bool)(v:V9):Sem V9:=Instr.alloc 352 h v
noncomputable def C7(p:Array (Nat×V9)):Sem V9:=Instr.build 352 p
noncomputable def QJ(n:Nat)(p:Array (Nat×V9)):Sem V9:=Instr.buildSlice 303 n p
def Kc(v):Instr.loadAt 352 v=C8 v:=rfl
def Ke(p v):Instr.storeAt 352 p v=JZ p v:=rfl
def Ka(h v):Instr.alloc 352 h v=QH h v:=rfl
def Kb(p):Instr.build 352 p=C7 p:=rfl
def Kd(n p):Instr.buildSlice 303 n p=QJ n p:=rfl
def J1(s):(pX s).cells=(hZ s).toArray:=rfl
def kF(w:W8)(b:Nat)(s:gR):Prop:=w.heap[b]?=P (Vc (hZ s).toArray 352)
variable {a d:Nat}{c:gR}{b:W8}
def kF.load(h:kF b a c):(C8 (Vp (P (C a 0 G)))).run prog b=.ok (pX c) b:=by unfold C8;refine run_loadAt_mid b a 0 352 (hZ c) _ (λj v w=>?_) underlying352 rfl (by rw[OF];rfl);rw[lZ];have:=(aj h j).1;rw[this,bt];exact w
def kF.new(w s):kF (Al w (Vc (hZ s).toArray 352)) (F (X w)) s:=aG w _
def kF.lt(h:kF b a c):a<F (X b):=(aM.1 h).1
def kF.ai{w}(h:kF b a c)(k:Below (F (X b)) b w):kF w a c:=(k.block a h.lt).trans h
def kF.store(h:kF b a c)(w)(s:w.r.hv.oneCell'=Bt/\w.r.bv.oneCell'=Bt):(JZ (Vp (P (C a 0 G))) (pX w)).run prog b=.ok () (b.setRow a (hZ w).toArray):=by unfold JZ Instr.storeAt Instr.sureAddr;simp only[wV,yq,wU];exact Hc b a _ 352 _ _ h (by rw[OF];rfl) rfl (aar w s)
def JQ(w v):(QH Bt v).run prog w=.ok (Vp (P (C (F (X w)) 0 G))) (Al w (Vc (hZ nY).toArray 352)):=by unfold QH;simp[Instr.alloc,newVar,newRow,go_sem,hZ,nY,abC,PR.cells,bP,bj,Th.p,Th.ts,CJ,iS]
def QK(w s a)(b:a.r.hv.oneCell'=Bt/\a.r.bv.oneCell'=Bt):(JZ (Vp (P (C (F (X w)) 0 G))) (pX a)).run prog (Al w (Vc (hZ s).toArray 352))=.ok () (Al w (Vc (hZ a).toArray 352)):=by rw[(kF.new w s).store a b,World.setRow_alloc_new]
def alO(w):(C7 #[]).run prog w=.ok (pX nY) w:=by unfold C7;kernel_rfl
def alN(w r e t):(C7 #[(0,Va #[Y r.R.pd,r.hv,r.bv]),(1,ig e),(2,cP t)]).run prog w=.ok (pX ⟨r,e,t⟩) w:=by unfold C7;kernel_rfl
def alP(w s):(QJ 1 #[(0,pX s)]).run prog w=.ok (U (P (C (F (X w)) 0 G)) 1 1) (Al w (Vc (hZ s).toArray 352)):=by unfold QJ;kernel_rfl
def Qg{d p u}(h:d.results=#[.cell p 352,.tmp u])(a w g s)(i:a.getD p undef=Vp (P (C g 0 G)))(e:kF w g s):(results d a).run prog w=.ok (Vt #[pX s,a.getD u undef]) w:=by
 have b:a[p]?.getD undef=Vp (P (C g 0 G)):=by simpa using i
 have c:a.getD u undef=a[u]?.getD undef:=oS
 have f:(loadVar 352 (C g 0 G)).run prog w=.ok (pX s) w:=by have:=e.load;unfold C8 Instr.loadAt Instr.sureAddr at this;simpa only[wV,yq,wU]using this
 rw[c];simp[results,h,b,asAddr,f]
structure Hp(w:W8)(base:Nat)(v:V9)(st:List gR):Prop where
 row:Ow w base 352 33 v (Z st) (st.flatMap hZ)
def QL{v w}(h:Ow b a 352 33 v (Z w) (w.flatMap hZ))(c:d<Z w):∃g j,v=U (P (C g 0 G)) (Z w) j/\a<=g/\g<F (X b)/\(Z w)<=j/\j<=maxLen/\∀j,j<33->Ce b (C g (d*33+j) G)=(hZ w[d])[j]?:=
 gu (f:=hZ) aaq h d c
def aao(h:∀j,j<33->Ce b (C a (d+j) G)=(hZ c)[j]?):(C8 (Vp (P (C a d G)))).run prog b=.ok (pX c) b:=by
 unfold C8;refine run_loadAt_mid b a d 352 (hZ c) _ (λj v w=>?_) underlying352 rfl (by rw[OF];rfl);have v:j<33:=by have:=(qj.1 w).1;rw[aaq]at this;exact this
 exact(h j v).trans w
def aas{w g o s}(h:∀j,j<33->Ce w (C g (o+j) G)=(hZ s)[j]?):(oO (Vp (P (C g (o+28) G)))).run prog w=.ok (cP s.t) w:=by
 unfold oO;refine run_loadAt_mid w g (o+28) 88 (bP s.t) _ (λj v a=>?_) underlying88 rfl (by rw[vN];rfl);have v:j<5:=(qj.1 a).1;rw[G3,h (28+j) O];rw[<-a];unfold hZ;rw[ug (by show 3<=_;omega),ug (by show 25<=28+j-3;omega)]
 show(bP s.t)[28+j-3-25]?=_
 rw[show 28+j-3-25=j by omega]
def amy(h:∀j,j<33->Ce b (C a (d+j) G)=(hZ c)[j]?):(rf (Vp (P (C a (d+3) G)))).run prog b=.ok (ig c.e) b:=by
 unfold rf;refine run_loadAt_mid b a (d+3) 135 (CJ c.e) _ (λj v w=>?_) underlying135 rfl (by rw[ze];rfl);have v:j<25:=(qj.1 w).1;rw[G3,h (3+j) O];rw[<-w];unfold hZ;rw[ug (by show 3<=_;omega),wL (by show 3+j-3<25;omega)]
 show(CJ c.e)[3+j-3]?=_
 rw[show 3+j-3=j by omega]
def kF.cells(h:kF b a c):∀j,j<33->Ce b (C a (0+j) G)=(hZ c)[j]?:=λj _=>by rw[lZ,(aj h j).1,bt]
def kF.aeg(h:kF b a c):(rf (Vp (P (C a 3 G)))).run prog b=.ok (ig c.e) b:=by
 have:=amy h.cells
 rwa [lZ]at this
section
open Go.RowKit
attribute [local go_sem ↓] tW tX wj tF pB qa p9 pY Kc Ke Ka Kb Kd J1
attribute [local go_sem] ux xJ JQ alO
def tV(r:PR)(o:Option bJ):gR:=match o with|none=>nY|some e=>⟨r,e,bM e (cq r)⟩
def acT(w:W8)(r:PR)(o:Option bJ)(en:Ending)(w':W8):Prop:=Below (F (X w)) w w'/\en=Vr (Vt #[pX (tV r o),Vb o.isSome])
variable{e:List Nat}{a:Nat}{b:bJ}
def amX{k S}(d:a<Z k)(c:a<Z e)(f:Z S<=e[a]):lV (k.drop a) (e.drop a) S b=none:=by rw[dM d,dM c,J5];simp only;rw[od f]
def amW{cs fr S e}(c:a<Z cs)(b:a<Z fr)(d:fr[a]<Z S):lV (cs.drop a) (fr.drop a) S e=match dZ e cs[a] S[fr[a]] with|none=>G|some k=>lV (cs.drop (a+1)) (fr.drop (a+1)) S k:=by rw[dM c,dM b,J5];simp only;rw[dr d];rfl
structure acS(w:W8)(base:Nat)(r:PR)(fr:List Nat)(fv:V9)(st:List gR)(sv:V9):Prop where
 cH:l6 w base r
 l3:Z r.bs<=3
 t4:∀x∈r.bs,x.1.ts.length<=4
 h4:Z r.R.ts<=4
 Vg:Ow w 0 3 1 fv (Z fr) (jk fr)
 afZ:Z fr=(aY r.bs).length
 AN:Hp w 0 sv st
structure yA(w:W8)(r:PR)(ap:O8)(cp:Nat)(e:bJ)(wr:W8):Prop where
 kp:Below (F (X w)) w wr
 rb:wr.heap[F (X w)]?=P (Vc #[Y r.R.pd,r.hv,r.bv] 123)
 sb:kF wr (F (X w)+1) nY
 bb:BV wr (F (X w)+1+1) e
 pr:Ow wr (F (X w)+1+1+1) 79 2 (U ap (dq Bf r.bs).length cp) (dq Bf r.bs).length ((dq Bf r.bs).flatMap El)
variable{f:O8}{c:PR}{d g:W8}
def yA.ai{w}(h:yA d c f a b g)(k:Below (F (X g)) g w):yA d c f a b w:=
 have l:=h.bb.lt
 ⟨h.kp.trans (k.mono h.kp.size),(k.block _ O).trans h.rb,h.sb.ai k,h.bb.ai k,aQ h.pr k (λr b=>(h.pr.lt r b).2)⟩
def yA.set{w r a b e wr}(h:yA w r a b e wr)(c):yA w r a b c (wr.setRow (F (X w)+1+1) (CJ c).toArray):=
 ⟨mJ h.kp O _,(yr _ _ _ _ O).trans h.rb,(yr _ _ _ _ O).trans h.sb,kn _ _ _ _ _ _ h.bb,gC h.pr (λg e=>yr _ _ _ _ (oF ((h.pr.lt g e).1)))⟩
def ajj(h:a<Z e):(jk e)[a]?=P (I J (e[a]:Nat)):=by unfold jk;rw[gP,dr h];rfl
def l6.one(h:l6 d a c):c.hv.oneCell'=Bt/\c.bv.oneCell'=true:=by obtain⟨_,_,b⟩:=aF h.hd;obtain⟨_,_,w⟩:=aF h.bo.row;rw[b,w];exact⟨rfl,rfl⟩
def akF(w l r q af cf m sa cs)(h:acS w l r q (U af (Z q) cf) m (U sa (Z m) cs)):Calls prog 222 #[Va #[Y r.R.pd,r.hv,r.bv],U af (Z q) cf,U sa (Z m) cs] w (acT w r (lV (aY r.bs) q (m.map (·.t)) [])):=by
 obtain⟨K,L,T⟩:=aF h.cH.hd;obtain⟨ab,cb,e⟩:=aF h.cH.bo.row;have a:=H h;have i:=h.cH.one;have abY:=H i;have pN:=ej h.AN.row;unfold maxLen at pN;have yV:=h.l3;rw[T,e];have A:=H T;have z:=H e;have V:(dq Bf r.bs).length=(aY r.bs).length:=by unfold aY;rw[bF]
 have xu:(aY r.bs).length<=3:=by have:=PT r.bs;omega
 have Dv:=H V;clear h T e i V;go_in;go_upto_region 2 with fail;generalize i:World.alloc (World.alloc (World.alloc w _) _) _=w0;have s:Below (F (X w)) w w0:=by rw[<-i];exact(((aZ (F (X w)) w).alloc L9 _).alloc oS _).alloc oW _
 have x0:w0.heap[F (X w)]?=P (Vc #[Y r.R.pd,r.hv,r.bv] 123):=by rw[<-i,aW _ _ _ oW,aW _ _ _ oS,ag A,ag z];exact aG w _
 have x1:kF w0 (F (X w)+1) nY:=by unfold kF;rw[<-i,aW _ _ _ oS];have:=aG (Al w (Vc #[Y r.R.pd,U K (Z r.R.ts) L,U ab (Z r.bs) cb] 123)) (Vc (hZ nY).toArray 352);rw[bL]at this;exact this
 have x2:BV w0 (F (X w)+1+1) []:=by unfold BV;rw[<-i];have:=aG (Al (Al w (Vc #[Y r.R.pd,U K (Z r.R.ts) L,U ab (Z r.bs) cb] 123)) (Vc (hZ nY).toArray 352)) (Vc (CJ []).toArray 135);rw[bL,bL]at this;exact this
 have s0:F (X w0)=F (X w)+1+1+1:=by rw[<-i];simp
 clear i;have i:=(a.cH.bo).ai s;rw[ag z]at i;have c0:=(aj x0 0).1;have c1:=(aj x0 1).1;have c2:=(aj x0 2).1;simp only[bt,aT,bx]at c0 c1 c2;rw[ag A]at c1;rw[ag z]at c2;have E:=H (FL w0 l r.R.pd K (Z r.R.ts) L ab cb r.bs i O);have S:=H (And.intro x0 (And.intro x1 x2));have e:=H s;have V:=H s0;clear x0 x1 x2 s s0 i;go_upto_region 3 with(go_at_call 164;refine(E).mono ?_;rintro en wP⟨ap,cp,rfl,T,u,s⟩;have k:=H T;have i:=H u;clear T u s);have B:yA w r ap cp [] wP:=by
  obtain⟨x0,x1,x2⟩:=ag S;have s:=ag i;have s0:=ag V;have T:=ag k;have u:(dq Bf r.bs).length=(r.bs.filter (dJ Bf)).length:=by unfold dq;rw[bF]
  refine⟨e.trans (s.mono e.size),(s.block _ O).trans x0,x1.ai s,x2.ai s,?_⟩;rw[OR,u];exact aX T O
 have s:(r.bs.filter (dJ Bf)).length=(aY r.bs).length:=by rw[<-ag Dv];unfold dq;rw[bF]
 rw[s];have u:=H B;clear B s E S e V k i c0 c1 c2
 go_loopg [16] (aY r.bs).length (λV i wr=>∃(k:Nat)(e:bJ),k<=(aY r.bs).length/\V=(aY r.bs).length-k/\i=I J k/\yA w r ap cp e wr/\iY (uN r.bs) e/\lV (aY r.bs) q (m.map (·.t)) []=lV ((aY r.bs).drop k) (q.drop k) (m.map (·.t)) e)
 exact⟨0,[],aI _,rfl,rfl,u,iY.nil _,rfl⟩
 case round=>
  clear u;obtain⟨k,e,_,_,rfl,i,V,u⟩:=hrel;have qf:=H i;have DA:=H V;have s:=H u;have oy:F (X w)+1+1<F (X wr):=i.bb.lt
  by_cases E:k<(aY r.bs).length
  .have sG:k<(dq Bf r.bs).length:=(by rw[ag Dv];exact E);have S:k<Z q:=(by rw[(ag a).afZ];exact E);obtain⟨gp,_,hv,_,_,_,_,B⟩:=gu Em i.pr k sG;injection hv with W i2 d
   subst W d;have hx:(dq Bf r.bs)[k]∈dq Bf r.bs:=aN sG;obtain⟨y,hy,p⟩:=Ft hx;obtain⟨f,o⟩:∃f,f=(aY r.bs)[k]:=⟨_,rfl⟩;have b:f=(dq Bf r.bs)[k].1:=(by rw[o];simp[aY]);have D:=(a.cH.bo.aK y hy);obtain⟨ta,tc,c⟩:=aF D;have n:f=(xz y).1:=(by rw[b,p]);have tJ:Z f.ts<=4:=(by rw[n];exact(a).t4 y hy);have j:Ce wr (C gp (k*2) G)=P (Y f.p):=(by have:=B 0 O;rw[b];exact this);have e1:Ce wr (C gp (k*2+1) G)=P (U ta (Z f.ts) tc):=by have:=B 1 O;rw[p]at this;rw[n];exact this.trans (by show P y.2=_;rw[c];rfl)
   have Xo:Ow w l 191 1 (U ta (Z f.ts) tc) (Z f.ts) (f.ts.map kx):=by rw[n];rw[c]at D;exact D
   have yZ:=aQ a.Vg i.kp (λg e=>(a.Vg.lt g e).2);obtain⟨M,_,E5,-,_,_,Q⟩:=rZ yZ O;injection E5 with W i2 d
   subst W d;have NU:M<F (X wr):=(yZ.lt M rfl).2;have v:Ce wr (C M k G)=P (I J (q[k]:Nat)):=(by rw[Q k S,ajj S]);have aoO:(k:Int)<Z q:=O;have kf:(k:Int)<(aY r.bs).length:=O;have Sa:=H o;have rQ:(dq Bf r.bs).length<=3:=(by rw[ag Dv];exact xu);clear i V u B p b n D c o;obtain⟨n,D⟩:∃n,n=q[k]:=⟨_,rfl⟩;rw[<-D]at v;go_upto_region 5 with fail;generalize b:World.alloc wr _=o;have k3:Below (F (X wr)) wr o:=(by rw[<-b];exact B9.alloc L9 _);have y3:o.heap[F (X wr)]?=P (Vc #[Y f.p,U ta (Z f.ts) tc] 79):=(by rw[<-b];exact aG wr _);have s3:F (X wr)<F (X o):=(by rw[<-b];simp);clear b;have p:=qf.ai k3;have xc3:Ce o (C M k G)=P (I J (n:Nat)):=(k3.cell (p:=(C M k G)) NU).trans v;have a0:=(aj y3 0).1;have a1:=(aj y3 1).1;simp only[bt,aT,bx]at a0 a1;have b:=H p;have HY3:=H y3;clear v j e1 p
   by_cases vE:n<Z m
   .have Ad:(n:Int)<Z m:=O;have B:=aQ a.AN.row b.kp (λg e=>(a.AN.row.lt g e).2);obtain⟨g5,_,sJ,-,pM,_,_,p⟩:=QL B vE;injection sJ with W i2 d
    subst W d;have v:∀W,Below (F (X o)) o W->(oO (Vp (P (C g5 (n*33+28) G)))).run prog W=.ok (cP m[n].t) W:=λW d=>aas (λj x=>(d.cell (p:=(C g5 (n*33+j) G)) pM).trans (p j x))
    obtain⟨R,x⟩:∃R,R=dZ e f m[n].t:=⟨_,rfl⟩;have c:∀t∈f.ts,t.1=Bt->t.2∈uN r.bs:=λt j _=>JJ (x:=f) (by rw[ag Sa];exact aN E) j
    have agb:(uN r.bs).length<=12:=JI a.l3 a.t4;have HM:=H (λ(W:W8)(d:Below (F (X o)) o W)=>JH W l e f ta tc m[n].t (aQ Xo (b.kp.trans (d.mono b.kp.size)) (λg e1=>(Xo.lt g e1).2)) tJ (uN r.bs) agb DA c);rw[<-x]at HM;have HR:=H x;have t:=amW (cs:=aY r.bs) (fr:=q) (S:=m.map (·.t)) (e:=e) E S (by rw[<-D,bF];exact vE)
    have j:=H (show lV (aY r.bs) q (m.map (·.t)) []=match (generalizing:=false) R with|none=>G|some e'=>lV ((aY r.bs).drop (k+1)) (q.drop (k+1)) (m.map (·.t)) e' by
     rw[ag s,t,x,ag Sa]
     simp only[nB,<-D])
    have ac8:=H (λ(e':bJ)(h:R=P e')=>DA.Je c (by rw[<-x];exact h));generalize Nx:m[n].t=TH at*;clear x t c B p D s;have p:=b.bb;have b3l:=p.lt;have HA:=H (λ(W:W8)(d:Below (F (X o)) o W)=>(show(rf (Vp (P (C (F (X w)+1+1) 0 G)))).run prog W=.ok (ig e) W/\Ce W (C (F (X wr)) 0 G)=P (Y f.p)/\Ce W (C (F (X wr)) 1 G)=P (U ta (Z f.ts) tc)/\Ce W (C M k G)=P (I J (n:Nat))/\(oO (Vp (P (C g5 (n*33+28) G)))).run prog W=.ok (cP TH) W from ⟨(p.ai d).load,(d.cell (p:=(C (F (X wr)) 0 G)) (by show(F (X wr))<_;omega)).trans a0,(d.cell (p:=(C (F (X wr)) 1 G)) (by show(F (X wr))<_;omega)).trans a1,(d.cell (p:=(C M k G)) (by show M<_;omega)).trans xc3,v W d⟩));have B:=p.load;have t:=v o B9;clear p v;go_upto_region 7 with fail
    go_cut [11,12] from 17 to 47 (λp c wc=>∃nb,p=Vp (P (C nb 0 G))/\c=Vb R.isSome/\BV wc nb (R.getD [])/\Below (F (X o)) o wc)
    case first=>
     go_region_held3 (λx=>(rf (Vp (P (C (F (X w)+1+1) 0 G)))).run prog x=.ok (ig e) x/\Ce x (C (F (X wr)) 0 G)=P (Y f.p)/\Ce x (C (F (X wr)) 1 G)=P (U ta (Z f.ts) tc)/\Ce x (C M k G)=P (I J (n:Nat))/\(oO (Vp (P (C g5 (n*33+28) G)))).run prog x=.ok (cP TH) x) ((refine HA _ ?_;first|exact c|exact B9.drew|exact oA.drew|exact c.alloc c.size _|exact mJ c L9 _)) ((go_at_call 62;refine(HM _ (by first|exact B9.drew|exact oA.drew)).mono ?_;rintro en w4⟨v,rfl⟩;have c:Below (F (X o)) o w4:=(by first|exact jB v|exact BZ oA v);first|(have ah3:=((BV.new o []).ai (jB v)).store (R.getD []))|skip))
     all_goals
      go_wp2;go_meet
      case rel=>first|exact⟨_,rfl,rfl,BV.new _ _,c.alloc c.size _⟩|exact⟨_,rfl,rfl,kn _ _ _ _ _ _ ((BV.new o []).ai (jB v)),mJ c L9 _⟩
    case rest=>
     generalize wc=wA at*;obtain⟨nb,rfl,rfl,N,uC⟩:=hcut;have p:=b.ai uC;have abV:=H p;clear HA HM B t a0 a1 xc3 HY3
     cases B:R with
     |none=>rw[B]at j;have Xj:=p.sb.store nY ⟨rfl,rfl⟩;have W9:=kn _ _ _ (hZ nY).toArray _ _ p.sb;have t:=H W9;clear p N uC B W9;go_wp2_with fail;refine bN (v:=Vt #[pX nY,Vb Bf]) (Qg results222 _ _ _ nY rfl t) rfl ?_;rw[ag j];exact⟨mJ abV.kp O _,rfl⟩
     |some e2=>rw[B]at j N;have agI:=N.load;have Xj:=p.bb.store e2;have HV2:=H (ac8 e2 B);have ac4:=H (p.set e2);clear p N uC B;simp only[yp]at agI;go_wp2;go_roundg((aY r.bs).length-(k+1));exact⟨k+1,e2,O,rfl,oN,ac4,HV2,j⟩;omega
   have Ad:¬(n:Int)<Z m:=O;have R:(Z m:Int)<=n:=O
   have j:=H (show lV (aY r.bs) q (m.map (·.t)) []=G by
    rw[ag s]
    exact amX E S (by rw[<-D,bF];omega))
   have Xj:=b.sb.store nY ⟨rfl,rfl⟩;have t:=H (kn _ _ _ (hZ nY).toArray _ _ b.sb);go_wp2_with fail;refine bN (v:=Vt #[pX nY,Vb Bf]) (Qg results222 _ _ _ nY rfl t) rfl ?_;rw[ag j];exact⟨mJ b.kp O _,rfl⟩
  have S:k=(aY r.bs).length:=O
  have j:=H (show lV (aY r.bs) q (m.map (·.t)) []=P e by
   rw[u,gE O]
   rfl)
  have b:Ow w l 191 1 (U K (cq r).ts.length L) (cq r).ts.length ((cq r).ts.map kx):=by have:=a.cH.hd;rw[ag A]at this;exact this
  have o:Z e<=12:=by have:=V.len;have:=JI a.l3 a.t4;omega
  have M:=a.h4;have R:=H (λ(W:W8)(d:Below (F (X wr)) wr W)=>CX W l e (cq r) K L (aQ b (i.kp.trans (d.mono i.kp.size)) (λg e1=>(b.lt g e1).2)) M o);have c0:=(aj i.rb 0).1;have c1:=(aj i.rb 1).1;have c2:=(aj i.rb 2).1;simp only[bt,aT,bx]at c0 c1 c2;rw[ag A]at c1;rw[ag z]at c2;have B:=i.bb.load;have HA:=H (λ(W:W8)(d:Below (F (X wr)) wr W)=>(show(rf (Vp (P (C (F (X w)+1+1) 0 G)))).run prog W=.ok (ig e) W/\Ce W (C (F (X w)) 0 G)=P (Y r.R.pd)/\Ce W (C (F (X w)) 1 G)=P (U K (Z r.R.ts) L)/\Ce W (C (F (X w)) 2 G)=P (U ab (Z r.bs) cb) from ⟨(i.bb.ai d).load,(d.cell (p:=(C (F (X w)) 0 G)) (by show(F (X w))<_;omega)).trans c0,(d.cell (p:=(C (F (X w)) 1 G)) (by show(F (X w))<_;omega)).trans c1,(d.cell (p:=(C (F (X w)) 2 G)) (by show(F (X w))<_;omega)).trans c2⟩));have f:=H (λ(W:W8)(d:Below (F (X wr)) wr W)=>i.sb.ai d);have Q:∀W:W8,(C7 #[(0,Va #[Y r.R.pd,U K (Z r.R.ts) L,U ab (Z r.bs) cb]),(1,ig e),(2,cP (bM e (cq r)))]).run prog W=.ok (pX ⟨r,e,bM e (cq r)⟩) W:=λW=>by
   have:=alN W r e (bM e (cq r));rw[ag A,ag z]at this;exact this
  have n:=i.bb;have D:=i.rb;have g:=H i.kp;have y:(gR.mk r e (bM e (cq r))).r.hv.oneCell'=Bt/\(gR.mk r e (bM e (cq r))).r.bv.oneCell'=true:=abY;clear i V u DA s b M;generalize b:gR.mk r e (bM e (cq r))=s at*;have V:=H b
  have u:=H (λ(W:W8)(d:Below (F (X wr)) wr W)(cs:Array V9)=>(show(rf (Vp (P (C (F (X w)+1+1) 0 G)))).run prog (W.setRow (F (X w)+1) cs)=.ok (ig e) (W.setRow (F (X w)+1) cs)/\(W.setRow (F (X w)+1) cs).cell? (C (F (X w)) 0 G)=P (Y r.R.pd)/\(W.setRow (F (X w)+1) cs).cell? (C (F (X w)) 1 G)=P (U K (Z r.R.ts) L)/\(W.setRow (F (X w)+1) cs).cell? (C (F (X w)) 2 G)=P (U ab (Z r.bs) cb) from by
   obtain⟨-,M,i,N⟩:=ag HA W d
   exact⟨((n.ai d).rI O).load,cell_far M O,cell_far i O,cell_far N O⟩))
  clear n D;generalize Nx:bM e (cq r)=TH at*;have n:=H Nx;clear b Nx;go_upto_region 12 with fail
  go_region_held3 (λx=>(rf (Vp (P (C (F (X w)+1+1) 0 G)))).run prog x=.ok (ig e) x/\Ce x (C (F (X w)) 0 G)=P (Y r.R.pd)/\Ce x (C (F (X w)) 1 G)=P (U K (Z r.R.ts) L)/\Ce x (C (F (X w)) 2 G)=P (U ab (Z r.bs) cb)) (first|exact HA _ c|exact HA _ B9.drew|exact u _ c _) ((go_at_call 146;refine(R _ (by exact B9.drew)).mono ?_;rintro en w4⟨v,rfl⟩;have c:Below (F (X wr)) wr w4:=jB v;have ah3:=(f w4 c).store s y;have t:=H (kn _ _ _ (hZ s).toArray _ _ (f w4 c))))
  all_goals
   go_wp2_with fail;refine bN (v:=Vt #[pX s,Vb Bt]) (Qg results222 _ _ _ s rfl t) rfl ?_;rw[ag j];exact⟨mJ (g.trans (c.mono g.size)) O _,by unfold tV;simp only[];rw[ag n,ag V];rfl⟩
end
section
open Go.RowKit
attribute [local go_sem ↓] Kc Ke Ka Kb Kd J1
attribute [local go_sem] JQ alP
def ahl:(prog.info? 352).map (λi=>(i.zero,i.size,i.bytes))=P (P (pX nY),33,536):=oK
def amD(s)(h:s.r.hv.oneCell'=Bt/\s.r.bv.oneCell'=Bt):∀u∈hZ s,u.oneCell'=true:=by have:=aar s h;rw[Array.all_eq_true_iff_forall_mem]at this;exact λu a=>this u (oU a)
def amJ{rp ns st k}(h:k<Z ns)(a:ns[k].1<Z rp):lK rp (ns.drop k) st=match lV (aY rp[ns[k].1].bs) ns[k].2 (st.map (·.t)) [] with|none=>G|some e=>lK rp (ns.drop (k+1)) (st++[tV rp[ns[k].1] (P e)]):=by rw[dM h,lK,dr a];rfl
structure vr(w:W8)(K:Nat)(nv v:V9)(st:List gR)(wr:W8):Prop where
 kp:Below (F (X w)) w wr
 box:wr.heap[F (X w)]?=P (Vc #[I J (K:Nat),nv] 93)
 st:Ow wr (F (X w)+1) 352 33 v (Z st) (st.flatMap hZ)
variable{a:List gR}{b:Nat}{c d:V9}{e f:W8}
def vr.lt(h:vr e b c d a f):F (X e)<F (X f):=(aM.1 h.box).1
def vr.ai{K}(h:vr e b c d a f)(k:Below (F (X f)) f K):vr e b c d a K:=
 ⟨h.kp.trans (k.mono h.kp.size),(k.block _ h.lt).trans h.box,aQ h.st k (λg w=>(h.st.lt g w).2)⟩
def vr.add{W w5 v' s}(h:vr e b c d a f)(j:Below (F (X f)) f W)(k:W.grownBy w5 d.ownBlock)(i:Ow w5 (F (X e)+1) 352 33 v' (Z a+1) (a.flatMap hZ++hZ s)):vr e b c v' (a++[s]) w5:=by
 have K:=h.ai j;have g:=ak.jF k;have v:∀x∈d.ownBlock.toList,F (X e)+1<=x:=λx w=>(K.st.lt x (oU w)).1
 exact⟨ib K.kp g K.kp.size (λw x=>by have:=v w x;omega),(g.block _ K.lt (λx=>by have:=v _ x;omega)).trans K.box,by rw[br,oc];simpa using i⟩
structure acP(w:W8)(base:Nat)(rs:List PR)(rv:V9)(ic:List ND)(nv:V9):Prop where
 bB:gi w base rv rs
 l3:∀r∈rs,Z r.bs<=3
 t4:∀r∈rs,∀x∈r.bs,x.1.ts.length<=4
 h4:∀r∈rs,Z r.R.ts<=4
 CP:oh w 0 nv ic
 dc:Z ic<=50
 ix:∀x∈ic,∃h:x.r<Z rs,Z x.fr=(aY rs[x.r].bs).length
def acQ(w:W8)(o:Option (List gR))(e:Ending)(w':W8):Prop:=Below (F (X w)) w w'/\∃v,e=Vr (Vt #[v,Vb o.isSome])/\Hp w' (F (X w)+1) v (o.getD [])
def amK(w t K l ar cr b an cn)(h:acP w t l (U ar (Z l) cr) b (U an (Z b) cn)):Calls prog 178 #[Va #[I J (K:Nat),U an (Z b) cn],U ar (Z l) cr] w (acQ w (lK l (b.map gw) [])):=by
 have WS:=ej h.CP.row;have ES:=ej h.bB.row;unfold maxLen at WS ES;have a:=H h;have tJ:=h.dc;obtain⟨i0,sF,gB,dx,cB⟩:=info_parts ahl;clear h;go_in;go_upto_region 2 with fail;generalize h:World.alloc w _=w0;have v:vr w K (U an (Z b) cn) (U G 0 0) [] w0:=by rw[<-h];exact⟨B9.alloc L9 _,aG w _,dm _ _ _ _⟩
 clear h;have T:=(aj v.box 1).1;simp only[bt,aT,bx]at T;have h:=H v;clear v;go_wp2_with fail;clear T;generalize v:lK l (b.map gw) []=T at*;have o:=H v;clear v
 go_loopg [6,14] (Z b) (λu v L wr=>∃(k:Nat)(m:List gR),k<=Z b/\u=Z b-k/\L=I J k/\vr w K (U an (Z b) cn) v m wr/\(Z m)=k/\lK l ((b.map gw).drop k) m=T)
 exact⟨0,[],aI _,rfl,rfl,h,rfl,o⟩
 case round=>
  clear h o;obtain⟨k,m,_,_,rfl,v,o,h⟩:=hrel;obtain⟨av,cv,rfl⟩:=aF v.st;have u:=H v;have L:=H o;have E:=H h;have oy:=v.lt
  by_cases A:k<Z b
  .have kf:(k:Int)<Z b:=O;have z:=a.CP.ai v.kp;obtain⟨_,_,hv,-,_,_,_,hc⟩:=gu Jk z.row k A;injection hv with p i2 s
   subst p s;have f:=aN A;have x:=z.aK _ f;obtain⟨V,cf,Q⟩:=aF x;have e0:=hc 0 O;have e1:=hc 1 O;simp only[sO,aT,bx]at e0 e1;rw[Q]at e1 x;obtain⟨i,S⟩:=a.ix _ f;have D:=amJ (rp:=l) (ns:=b.map gw) (st:=m) (k:=k) (oU A) (by simpa[gw]using i);simp only[nB,gw]at D;rw[D]at h;have HT:=H h;have B:=a.bB.row;have R:=(a.bB.aK _ (aN i));have r:=R.one;have h3:=a.l3 _ (aN i);have N:=a.t4 _ (aN i);have M:=a.h4 _ (aN i);obtain⟨d,_,po,-,j,_,_,n⟩:=gu (f:=PR.cells) (n:=3) (λ_=>rfl) (aQ B v.kp (λg e=>(B.lt g e).2)) b[k].r i;injection po with p i2 s
   subst p s;have r0:=n 0 O;have r1:=n 1 O;have r2:=n 2 O;simp only[PR.cells,aT,bx,iy]at r0 r1 r2 e0;obtain⟨ah,ch,p⟩:=aF R.hd;obtain⟨ab,cb,s⟩:=aF R.bo.row;rw[p]at r1;rw[s]at r2;have ah7:((b[k].r:Nat):Int)<Z l:=O;have q:=H r;have KN:=H (And.intro p s);have y:=H (λ(W:W8)(c:Below (F (X wr)) wr W)=>akF W t l[b[k].r] b[k].fr V cf m av cv ⟨⟨aQ R.hd (v.kp.trans (c.mono v.kp.size)) (λg e=>(R.hd.lt g e).2),R.bo.ai (v.kp.trans (c.mono v.kp.size)),R.eq⟩,h3,N,M,aQ (aX x (aI _)) c (λg e=>(x.lt g e).2),S,⟨aQ (aX v.st (aI _)) c (λg e=>(v.st.lt g e).2)⟩⟩);rw[p,s]at y;clear v o h z hc D B R n r f x Q N M p s S h3 E;generalize s:l[b[k].r]=R at*;generalize p:b[k].r=x at*;generalize f:b[k].fr=S at*;generalize E:lV (aY R.bs) S (m.map (·.t)) []=g at*;have HOO:=H E;clear E f p s;have f:(tV R g).r.hv.oneCell'=Bt/\(tV R g).r.bv.oneCell'=true:=by
    cases g with
    |none=>exact⟨rfl,rfl⟩
    |some e=>exact q
   have Q:=λ(W:W8)(s:gR)=>QK W s (tV R g) f
   go_upto_region 5 with fail;generalize p:World.alloc wr _=s;have n:Below (F (X wr)) wr s:=(by rw[<-p];exact B9.alloc L9 _);have D:s.heap[F (X wr)]?=P (Vc #[I J (x:Nat),U V (Z S) cf] 150):=(by rw[<-p];exact aG wr _);have s3:F (X wr)<F (X s):=(by rw[<-p];simp);clear p;have B:=(aj D 0).1;have E:=(aj D 1).1;simp only[bt,aT,bx]at B E;have u0:=(n.cell (p:=(C d (x*3) G)) j).trans r0;have u1:=(n.cell (p:=(C d (x*3+1) G)) j).trans r1;have u2:=(n.cell (p:=(C d (x*3+2) G)) j).trans r2;have N:=H (λ(W:W8)(c:Below (F (X s)) s W)=>(show Ce W (C (F (X wr)) 0 G)=P (I J (x:Nat))/\Ce W (C (F (X wr)) 1 G)=P (U V (Z S) cf)/\Ce W (C d (x*3) G)=P (Y R.R.pd)/\Ce W (C d (x*3+1) G)=P (U ah (Z R.R.ts) ch)/\Ce W (C d (x*3+2) G)=P (U ab (Z R.bs) cb) from ⟨(c.cell (p:=(C (F (X wr)) 0 G)) (by show(F (X wr))<_;omega)).trans B,(c.cell (p:=(C (F (X wr)) 1 G)) (by show(F (X wr))<_;omega)).trans E,(c.cell (p:=(C d (x*3) G)) (by show d<_;omega)).trans u0,(c.cell (p:=(C d (x*3+1) G)) (by show d<_;omega)).trans u1,(c.cell (p:=(C d (x*3+2) G)) (by show d<_;omega)).trans u2⟩));have r:=H (λ(W:W8)(c:Below (F (X s)) s W)=>y W (n.trans (c.mono n.size)));have M:=H n;clear e0 e1 r0 r1 r2 D n
   go_cut [9,10] from 15 to 36 (λp c wc=>∃D,p=Vp (P (C D 0 G))/\c=Vb g.isSome/\kF wc D (tV R g)/\Below (F (X s)) s wc)
   case first=>
    go_region_held3 (λc=>Ce c (C (F (X wr)) 0 G)=P (I J (x:Nat))/\Ce c (C (F (X wr)) 1 G)=P (U V (Z S) cf)/\Ce c (C d (x*3) G)=P (Y R.R.pd)/\Ce c (C d (x*3+1) G)=P (U ah (Z R.R.ts) ch)/\Ce c (C d (x*3+2) G)=P (U ab (Z R.bs) cb)) ((refine N _ ?_;first|exact c|exact B9.drew|exact oA.drew|exact c.alloc c.size _|exact mJ c L9 _)) ((go_at_call 222;refine(r _ (by first|exact B9.drew|exact oA.drew)).mono ?_;rintro n W⟨p,rfl⟩;have c:Below (F (X s)) s W:=(by first|exact jB p|exact BZ oA p);first|(have z:=((kF.new s nY).ai (jB p)).store (tV R g) f)|skip))
    all_goals
     go_wp2;go_meet
     case rel=>first|exact⟨_,rfl,rfl,kF.new _ _,c.alloc c.size _⟩|exact⟨_,rfl,rfl,kn _ _ _ _ _ _ ((kF.new s nY).ai (jB p)),mJ c L9 _⟩
   case rest=>
    generalize wc=wA at*;obtain⟨D,rfl,rfl,W,z⟩:=hcut;have c:=(u.ai M).ai z;have n:=H c;clear N y r B E u0 u1 u2
    cases p:g with
    |none=>
     have B:=H (show T=G by rw[<-ag HT,p]);clear c W z p;go_wp2
     go_ret2
     rw[ag B];exact⟨n.kp,_,rfl,⟨dm _ _ _ _⟩⟩
    |some e=>rw[p]at W;have B:=H (show lK l ((b.map gw).drop (k+1)) (m++[tV R (P e)])=T by rw[<-ag HT,p]);have N:(tV R (P e)).r.hv.oneCell'=Bt/\(tV R (P e)).r.bv.oneCell'=true:=q;have WD:=W.load;generalize tV R (P e)=E at*;have y:=c.st.alloc (Vc (hZ E).toArray 352);have r:=H (World.news_of_block (aG wA (Vc (hZ E).toArray 352)));have o:Z m<=50:=(oF (ag L));have hwA:=c.lt;clear c W z p f Q;go_wp2_with(at_builtin;refine ka _ rfl _ _ 303 rfl (F (X w)+1) 352 i0 _ 33 536 underlying303 sF gB dx cB rfl oD _ _ _ rfl y (C (F (X wA)) 0 G) 1 1 (hZ E) rfl rfl r (amD E N) oM O oT ?_;intro Q c f p z;clear z;obtain⟨_,_,rfl⟩:=aF f;have W:=H f;have z:=H p;clear f p);go_roundg(Z b-(k+1));exact⟨k+1,m++[E],O,rfl,oN,n.add oA z W,by have:=ag L;rw[br,sq];omega,B⟩;omega
  have kf:¬(k:Int)<Z b:=O
  have B:=H (show T=P m by rw[<-h,gE oT];rfl);clear v o h;go_wp2
  go_ret2
  rw[ag B];exact⟨u.kp,_,rfl,⟨u.st⟩⟩
end
section
open Go.RowKit Go.Maps
attribute [local go_sem ↓] Kc Ke Ka Kb Kd J1 pB
attribute [local go_sem] JQ
def alT(a s):iE (a++[s])=iE a++[(s.t,Z a)]:=by unfold iE;rw[fg,List.zipIdx_append,bF];simp
def abL(w:W8)(st:List gR)(e:Ending)(w':W8):Prop:=Below (F (X w)) w w'/\((¬(st.map (·.t)).Nodup/\e=Vr (Vt #[.map G,Vb Bf]))\/((st.map (·.t)).Nodup/\e=Vr (Vt #[.map (P (F (X w))),Vb Bt])/\bQ w' (F (X w)) (iE st)))
def ag6(w r d a c)(h:Hp w r (U a (Z d) c) d)(f:∀s∈d,fY s.t)(Q:Z d<=50)(k:∀s∈d,s.r.hv.oneCell'=Bt/\s.r.bv.oneCell'=Bt):Calls prog 179 #[U a (Z d) c] w (abL w d):=by
 have S:=ej h.row;unfold maxLen at S;have b:=H h;have A:=H f;have q:=H k;clear h f k;have h:=@run_makeMap prog;go_in;go_upto_region 2 with fail;clear h;have h:=bQ.made w;have k:Below (F (X w)) w (Al w (.map #[] 0)):=B9.alloc L9 _;generalize(Al w (.map #[] 0))=w0 at*;have f:=H (And.intro h k);clear h k;go_wp2
 go_loopg [12] (Z d) (λh i wr=>∃k:Nat,k<=Z d/\h=Z d-k/\i=I J k/\bQ wr (F (X w)) (iE (d.take k))/\Below (F (X w)) w wr)
 exact⟨0,aI _,rfl,rfl,f.1,f.2⟩
 case round=>
  clear f;obtain⟨k,_,_,rfl,h,f⟩:=hrel;have i:=H h;have y:=H f;have oy:=h.lt
  by_cases l:k<Z d
  .have L:(k:Int)<Z d:=O;have n:=aQ b.row f (λg e=>(b.row.lt g e).2);obtain⟨g,_,V,-,_,_,_,p⟩:=QL n l;injection V with m h2 v
   subst m v;have m:=aN l;have K:=ag A _ m;have E:=ag q _ m;have R:=aao p
   have D:=H (show iE (d.take (k+1))=iE (d.take k)++[(d[k].t,k)] by
    rw[jr l,alT,qk,BG O])
   have u:(iE (d.take k)).length<maxLen:=by unfold iE maxLen;rw[List.length_zipIdx,bF,qk];omega
   have x:=H (show d.map (·.t)=(d.take k).map (·.t)++d[k].t::(d.drop (k+1)).map (·.t) by
    rw[<-ir,<-dM l,<-fg,L2])
   have T:=λ(W:W8)(s:gR)=>QK W s d[k] E
   have e:=kF.new wr d[k]
   have M:=aas (o:=0) (s:=d[k]) (w:=Al wr (Vc (hZ d[k]).toArray 352)) (g:=F (X wr)) (λj N=>by
    rw[lZ,(aj e j).1,bt])
   rw[lZ]at M;have W:=i.alloc (Vc (hZ d[k]).toArray 352);have o:=H (f.alloc f.size (Vc (hZ d[k]).toArray 352));generalize d[k]=s at*;clear h f n p m e i
   cases n:bK (iE (d.take k)) s.t with
   |some m=>
    have e:=H (show ¬(d.map (·.t)).Nodup by
     intro p;rw[ag x,pF]at p;have t:s.t∈(d.take k).map (·.t):=by rw[<-xK];exact xA.1 (by rw[n];rfl)
     exact p.2.2 _ t _ bz rfl)
    go_wp2_with(at_lookup;refine xT _ rfl _ _ 82 rfl underlying82 (F (X w)) (iE (d.take k)) rfl W s.t rfl K _ rfl Bt (by rw[n];rfl) ?_)
    go_ret2
    exact⟨o,.inl ⟨e,rfl⟩⟩
   |none=>
    have p:=H n;go_wp2_with(first|(at_lookup;refine xT _ rfl _ _ 82 rfl underlying82 (F (X w)) (iE (d.take k)) rfl W s.t rfl K _ rfl Bf (by rw[ag p];rfl) ?_)|(at_mapUpdate;refine Rl _ rfl _ _ _ 82 rfl underlying82 (F (X w)) (iE (d.take k)) rfl W u s.t k rfl rfl K ?_;intro w3 t e;have z:=H t;have B:=H e;clear t e));go_roundg(Z d-(k+1))
    case measure=>omega
    case rel=>have t:=B.grown;have e:=ag o;refine⟨k+1,O,rfl,oN,?_,⟨t.os.trans e.os,t.tape.trans e.tape,t.output.trans e.output,bf e.size t.size,λj N=>(t.block j (oF e.size) oT).trans (e.block j N)⟩⟩;have v:=ag z;have j:kh (iE (d.take k)) s.t k=iE (d.take k)++[(s.t,k)]:=(by unfold kh;rw[ag p];rfl);rw[j]at v;rw[ag D];exact v
  have L:¬(k:Int)<Z d:=O
  have g:d.take k=d:=j7 O
  have e:=H (show(d.map (·.t)).Nodup by
   have:=h.nodup;rw[xK,g]at this
   exact this)
  rw[g]at i;clear h f g;go_wp2
  go_ret2
  exact⟨y,.inr ⟨e,rfl,i⟩⟩
end
section
open Go.RowKit Go.Maps Go.ChangeMaps Go.WideMaps
attribute [local go_sem ↓] tW tX wj tF pB qa p9 pY Kc Ke Ka Kb Kd J1
attribute [local go_sem] JQ
def dt.Fv{w b n V}(h:dt prog 9 w b n V){a}(c:a.size<=maxLen):(Instr.lookup 73 (.map (P b)) (Y a) Bf).run prog w=.ok ((V a).getD (Va #[Y ⟨#[]⟩,I J 0,I J 0])) w:=by obtain⟨_,g,f⟩:=h;obtain⟨v,_,h,i⟩:=g.lookup (string_keyed underlying9) underlying73 (zeroValue185 _) (zd:=.held (Va #[Y ⟨#[]⟩,I J 0,I J 0])) (zp:=[]) rfl (keyOf_string_mk underlying9 c);have d:=((f a).2 _).symm.trans (Ac i);have e:=Bu d;rw[e];exact h
structure abH(w:W8)(base mb tb n:Nat)(ps:P9)(Sp:B8->Nat)(st:List gR)(sv:V9):Prop where
 AN:Hp w 0 sv st
 dc:Z st<=50
 cH:∀s∈st,l6 w base s.r
 l3:∀s∈st,Z s.r.bs<=3
 t4:∀s∈st,∀x∈s.r.bs,x.1.ts.length<=4
 len:∀s∈st,Z s.e<=12
 neg:∀s∈st,∀a∈jj s.r.bs,fY (bM s.e a)/\a.p.size<=800/\(bE ps a.p).isSome=Bt
 m:bQ w mb (iE st)
 t:dt prog 9 w tb n (bq ps Sp)
def RF(w:W8)(a:Prop)(e:Ending)(w':W8):Prop:=Below (F (X w)) w w'/\∃c:Bool,e=Vr (Vb c)/\(c=Bt↔a)
def Mk(Sp:B8->Nat)(K:Nat)(st:List gR)(s:gR)(a:du):Prop:=bM s.e a∉st.map (·.t)/\Sp a.p<K
def af0(w q mb tb n K nv ps Sp d a c)(h:abH w q mb tb n ps Sp d (U a (Z d) c))(an nn cn)(b:nv=U an nn cn):Calls prog 180 #[Va #[I J (K:Nat),nv],U a (Z d) c,.map (P mb),.map (P tb)] w (RF w (A4 Sp K d)):=by
 subst b;have hm:=ej h.AN.row;unfold maxLen at hm;have b:=H h;have pn:=h.t.lt;have pk:=h.m.lt;clear h;have vE:=Ey;go_in;go_upto_region 1 with fail;have s:Below (F (X w)) w (Al w (Vc #[I J (K:Nat),U an nn cn] 93)):=B9.alloc L9 _;have k:=aG w (Vc #[I J (K:Nat),U an nn cn] 93);generalize(Al w (Vc #[I J (K:Nat),U an nn cn] 93))=w0 at*;have v:=H (And.intro s k);clear s k;go_wp2
 go_loopg [17] (Z d) (λA z wr=>∃k:Nat,k<=Z d/\A=Z d-k/\z=I J k/\Below (F (X w)) w wr/\wr.heap[F (X w)]?=P (Vc #[I J (K:Nat),U an nn cn] 93)/\∀s∈d.take k,∀x∈jj s.r.bs,Mk Sp K d s x)
 exact⟨0,aI _,rfl,rfl,v.1,v.2,oS⟩
 case round=>
  clear v;obtain⟨k,_,_,rfl,L,E,v⟩:=hrel;have r:=H L;have V:=H E;have t:=H v;have oy:=(aM.1 E).1
  by_cases gA:k<Z d
  .have kf:(k:Int)<Z d:=O;have o:=aQ b.AN.row L (λg e=>(b.AN.row.lt g e).2);obtain⟨g,_,hv,-,_,_,_,hc⟩:=QL o gA;injection hv with m h2 N
   subst m N;have j:=aN gA;have f:=b.cH _ j;have h1c:=f.one;have y:=aao hc;have Dy:=H (show d.take (k+1)=d.take k++[d[k]] from jr gA);have l:=λ(W:W8)(s:gR)=>QK W s d[k] h1c
   have yV:=b.l3 _ j;have i:=b.t4 _ j;have hlen:=b.len _ j;have R:=b.neg _ j;obtain⟨ah,ch,ehv⟩:=aF f.hd;obtain⟨ab,cb,UF⟩:=aF f.bo.row;have T:=f.bo;rw[UF]at T;have A7:=H T;have p:=kF.new wr d[k];have S:=H j;have Lg:=H i;have Dr:=H R;have B:=(aZ (F (X wr)) wr).alloc L9 (Vc (hZ d[k]).toArray 352);generalize hS:d[k]=s at*;clear hc o j f i R T v E L;go_upto_region 4 with fail;generalize T:World.alloc wr _=w1 at*;have Q:=(aj p 0).1;have R:=(aj p 1).1;have D:=(aj p 2).1;simp only[hZ,PR.cells,bt,jA,ql,aT,bx]at Q R D;rw[ehv]at R;rw[UF]at D;have u:=r.trans (B.mono r.size);have f:=H (Zb w1 q s.r.R.pd ah (Z s.r.R.ts) ch ab cb s.r.bs (A7.ai u) O);have i:=H p;have j:=H B;have s1:=p.lt;clear T p B u y l;go_upto_region 5 with(go_at_call 223;refine(f).mono ?_;rintro en T⟨ap,cp,rfl,u,y,M⟩;have l:=H u;have p:=H y;clear u y M);clear Q R D f;have f:(s.r.bs.filter (dJ Bt)).length=(dq Bt s.r.bs).length:=(by unfold dq;rw[bF]);have Cu:(dq Bt s.r.bs).length<=3:=by rw[<-f];exact bf (qU _ _) yV
   have u:Ow T 0 79 2 (U ap (dq Bt s.r.bs).length cp) (dq Bt s.r.bs).length ((dq Bt s.r.bs).flatMap El):=by have:=ag l;rw[f,<-OR]at this;exact aX this (aI _)
   have D:=r.trans ((j.trans (p.mono j.size)).mono r.size);have y:T.heap[F (X w)]?=P (Vc #[I J (K:Nat),U an nn cn] 93):=((j.trans (p.mono j.size)).block _ oy).trans V;have M:=i.ai p;have Gz:=H u;have R:=H D;have Q:=H y;have ac5:=H M;rw[f];generalize(F (X wr))=BY at*;clear f l p i j r V u D y M s1
   go_loopg [25] (dq Bt s.r.bs).length (λA z M=>∃j:Nat,j<=(dq Bt s.r.bs).length/\A=(dq Bt s.r.bs).length-j/\z=I J j/\Below (F (X T)) T M/\∀x∈(dq Bt s.r.bs).take j,Mk Sp K d s x.1)
   exact⟨0,aI _,rfl,rfl,aZ _ _,oS⟩
   case round=>
    obtain⟨j,_,_,rfl,p,f⟩:=hrel;have Bc:=H p;have HAJ:=H f;have N1:=R.trans (p.mono R.size);have V:=H N1;have l:=(p.block _ (aM.1 Q).1).trans Q
    by_cases yW:j<(dq Bt s.r.bs).length
    .have Cl:(j:Int)<(dq Bt s.r.bs).length:=O;have o:=aQ Gz p (λg e=>(Gz.lt g e).2);obtain⟨gp,_,hv,-,_,_,_,hc⟩:=gu Em o j yW;injection hv with m h2 N
     subst m N;have i:=aN yW;obtain⟨y,hy,Ff⟩:=Ft i;obtain⟨e,u⟩:∃e,e=(dq Bt s.r.bs)[j].1:=⟨_,rfl⟩;have Nn:e∈jj s.r.bs:=(by rw[u];exact fW i);have M:=A7.aK y hy;obtain⟨ta,tc,Aq⟩:=aF M;have D:e=(xz y).1:=(by rw[u,Ff]);have tJ:Z e.ts<=4:=(by rw[D];exact Lg y hy);have e0:Ce wr (C gp (j*2) G)=P (Y e.p):=(by have:=hc 0 O;rw[u];exact this);have e1:Ce wr (C gp (j*2+1) G)=P (U ta (Z e.ts) tc):=by have:=hc 1 O;rw[Ff]at this;rw[D];exact this.trans (by show P y.2=_;rw[Aq];rfl)
     have A:Ow w q 191 1 (U ta (Z e.ts) tc) (Z e.ts) (e.ts.map kx):=by rw[D];rw[Aq]at M;exact M
     obtain⟨ku,_,Ap⟩:=Dr e Nn;have sG:e.p.size<=maxLen:=oM;obtain⟨m,vG⟩:=tq.1 Ap;have hu:(bq ps Sp e.p).getD (Va #[Y ⟨#[]⟩,I J 0,I J 0])=Va #[Y e.p,I J (Sp e.p),I J m]:=(by unfold bq;rw[vG];rfl);have ac7:=H (show(dq Bt s.r.bs).take (j+1)=(dq Bt s.r.bs).take j++[(dq Bt s.r.bs)[j]] from jr yW);have N:=H u;have HAN:=H Nn;have B:=(aZ (F (X wr)) wr).alloc L9 (Vc #[Y e.p,U ta (Z e.ts) tc] 79);have z:=aG wr (Vc #[Y e.p,U ta (Z e.ts) tc] 79);have Xi:=ac5.ai p;clear hc i Ff u Nn M Aq D Ap vG o f N1 h2;go_upto_region 7 with fail;generalize qH:World.alloc wr _=w2 at*;have IZ:=(Xi.ai B).aeg;have a0:=(aj z 0).1;have a1:=(aj z 1).1;simp only[bt,aT,bx]at a0 a1;have u:=V.trans (B.mono V.size);have D:=H (CX w2 q s.e e ta tc (aQ A u (λg e1=>(A.lt g e1).2)) tJ hlen);have o:=(B.block _ (aM.1 l).1).trans l;have HW2:=H (And.intro u (And.intro z o));have agU:F (X wr)<F (X w2):=(aM.1 z).1
     have M:=H (λ(W:W8)(hW:Below (F (X w2)) w2 W)=>(show bQ W mb (iE d)/\dt prog 9 W tb n (bq ps Sp)/\Ce W (C (F (X wr)) 0 G)=P (Y e.p)/\Ce W (C (F (X w)) 0 G)=P (I J (K:Nat))/\Below (F (X w)) w W/\Below (F (X T)) T W from by
      have W:=u.trans (hW.mono u.size);refine⟨b.m.block (W.block mb pk),b.t.block (W.block tb pn),(hW.cell (p:=(C (F (X wr)) 0 G)) agU).trans a0,?_,W,Bc.trans ((B.trans (hW.mono B.size)).mono Bc.size)⟩;have:=(aj o 0).1
      exact(hW.cell (p:=(C (F (X w)) 0 G)) (aM.1 o).1).trans this))
     generalize hPF:bM s.e e=TH at*;have Sx:=H hPF;clear qH z Xi u B e0 e1 A o l p
     cases o:bK (iE d) TH with
     |some m1=>
      have z:=H (show ¬A4 Sp K d from λhd=>by
       have h5:=(hd s S e HAN).1;rw[ag Sx]at h5;refine h5 ?_;rw[<-xK]
       exact xA.1 (by rw[o];rfl))
      have B:=H o;clear o;go_wp2_with(first|(go_at_call 146;refine(D).mono ?_;rintro en w4⟨W,rfl⟩;obtain⟨m4,t4,x4,y4,k4,q4⟩:=ag M w4 W;have A:=t4.Fv sG;rw[hu]at A;have u:=H k4;clear W k4 q4)|(at_lookup;refine xT _ rfl _ _ 82 rfl underlying82 mb (iE d) rfl m4 TH rfl ku _ rfl Bt (by rw[ag B];rfl) ?_));go_ret;exact⟨u,Bf,rfl,⟨λh=>by(cases h),λh=>absurd h z⟩⟩
     |none=>
      have B:=H o
      have HNI:=H (show TH∉d.map (·.t) from λh5=>by
       rw[<-xK]at h5;have:=xA.2 h5;rw[o]at this
       cases this)
      clear o
      by_cases o:Sp e.p<K
      .have ED:¬((K:Int)<=Sp e.p):=O;have rL:decide ((K:Int)<=Sp e.p)=false:=oT;go_wp2_with(first|(go_at_call 146;refine(D).mono ?_;rintro en w4⟨W,rfl⟩;obtain⟨m4,t4,x4,y4,k4,q4⟩:=ag M w4 W;have A:=t4.Fv sG;rw[hu]at A;have u:=H q4;clear W k4 q4)|(at_lookup;refine xT _ rfl _ _ 82 rfl underlying82 mb (iE d) rfl m4 TH rfl ku _ rfl Bf (by rw[ag B];rfl) ?_));go_roundg((dq Bt s.r.bs).length-(j+1))
       case measure=>omega
       case rel=>
        refine⟨j+1,O,rfl,oN,u,λx i=>?_⟩;rw[ag ac7]at i;rcases aS.1 i with i|i
        .exact HAJ x i
        rw[bu.1 i];refine⟨?_,?_⟩
        .rw[<-ag N,ag Sx];exact HNI
        rw[<-ag N];exact o
      have ED:(K:Int)<=Sp e.p:=O;have rL:decide ((K:Int)<=Sp e.p)=true:=oT;have z:=H (show ¬A4 Sp K d from λhd=>o (hd s S e HAN).2);go_wp2_with(first|(go_at_call 146;refine(D).mono ?_;rintro en w4⟨W,rfl⟩;obtain⟨m4,t4,x4,y4,k4,q4⟩:=M w4 W;have A:=t4.Fv sG;rw[hu]at A;have u:=H k4;clear W k4 q4)|(at_lookup;refine xT _ rfl _ _ 82 rfl underlying82 mb (iE d) rfl m4 TH rfl ku _ rfl Bf (by rw[ag B];rfl) ?_));go_ret;exact⟨u,Bf,rfl,⟨λh=>by(cases h),λh=>absurd h z⟩⟩
    have Cl:¬(j:Int)<(dq Bt s.r.bs).length:=O
    have m:=H (show ∀x∈jj s.r.bs,Mk Sp K d s x from λx i=>by
     obtain⟨y,hy,rfl⟩:=aU.1 i
     exact f y (by rw[j7 O];exact hy))
    have e:=H l;clear f N1 p l;go_wp2;go_roundg(Z d-(k+1))
    case measure=>omega
    case rel=>
     refine⟨k+1,O,rfl,oN,V,e,λx i=>?_⟩;rw[ag Dy]at i;rcases aS.1 i with i|i
     .exact t x i
     rw[bu.1 i];exact m
  have kf:¬(k:Int)<Z d:=O
  have g:d.take k=d:=j7 O;rw[g]at t;clear v E L g;go_wp2;go_ret;exact⟨r,Bt,rfl,⟨λ_=>t,λ_=>rfl⟩⟩
end
open Go.Maps
def Ku(Sp:B8->Nat)(k:Nat)(rs:List PR)(K:List (Th×Nat)):Prop:=∀r∈rs,Sp r.R.pd<k->AX K r
def aeA(w u mb B n k Q nn R A Sp ar cr a K)(q:gi w u (U ar (Z a) cr) a)(b:bQ w mb K)(j:dt prog 9 w B n (bq A Sp))(o:∀r∈a,Hl K r)(i:∀r∈a,r.R.pd.size<=800/\(bE A r.R.pd).isSome=Bt):Calls prog 181 #[Va #[I J (k:Nat),U Q nn R],U ar (Z a) cr,.map (P mb),.map (P B)] w (RF w (Ku Sp k a K)):=by
 have rQ:=ej q.row;unfold maxLen at rQ;have HR:=H q;have HM:=H b;have HT:=H j;have qg:=H o;have zG:=H i;have pk:=b.lt;have pn:=j.lt;clear q b j o i;have vE:=Ey;go_in;go_upto_region 1 with fail;have o:Below (F (X w)) w (Al w (Vc #[I J (k:Nat),U Q nn R] 93)):=B9.alloc L9 _;have i:=aG w (Vc #[I J (k:Nat),U Q nn R] 93);generalize(Al w (Vc #[I J (k:Nat),U Q nn R] 93))=w0 at*;have b:=H (And.intro o i);clear o i;go_wp2
 go_loopg [13] (Z a) (λo q wr=>∃i:Nat,i<=Z a/\o=Z a-i/\q=I J i/\Below (F (X w)) w wr/\wr.heap[F (X w)]?=P (Vc #[I J (k:Nat),U Q nn R] 93)/\∀r∈a.take i,Sp r.R.pd<k->AX K r)
 exact⟨0,aI _,rfl,rfl,b.1,b.2,oS⟩
 case round=>
  clear b;obtain⟨i,_,_,rfl,b,o,q⟩:=hrel;have Dm:=H b;have yd:=H o;have j:=H q;have oy:=(aM.1 o).1
  by_cases z:i<Z a
  .have tK:(i:Int)<Z a:=O;obtain⟨r,f⟩:∃r,r=a[i]:=⟨_,rfl⟩;have d:r∈a:=(by rw[f];exact aN z);have c:=HR.aK r d;obtain⟨ah,ch,p⟩:=aF c.hd;obtain⟨ab,cb,l⟩:=aF c.bo.row;obtain⟨g,_,hv,_,y,_,_,W⟩:=gu JK HR.row i z;injection hv with N h e
   subst N e;have e0:Ce wr (C g (i*3) G)=P (Y r.R.pd):=(by rw[f];exact(b.cell (p:=(C g (i*3) G)) y).trans (W 0 O));have e1:Ce wr (C g (i*3+1) G)=P (U ah (Z r.R.ts) ch):=(by rw[<-p,f];exact(b.cell (p:=(C g (i*3+1) G)) y).trans (W 1 O));have e2:Ce wr (C g (i*3+2) G)=P (U ab (Z r.bs) cb):=(by rw[<-l,f];exact(b.cell (p:=(C g (i*3+2) G)) y).trans (W 2 O));have N:=H (show a.take (i+1)=a.take i++[r] by rw[f];exact jr z);have e:=ag qg r d;obtain⟨_,v⟩:=zG r d;have V:r.R.pd.size<=maxLen:=oM;obtain⟨m,S⟩:=tq.1 v;have hu:(bq A Sp r.R.pd).getD (Va #[Y ⟨#[]⟩,I J 0,I J 0])=Va #[Y r.R.pd,I J (Sp r.R.pd),I J m]:=(by unfold bq;rw[S];rfl);have kA:=(aZ (F (X wr)) wr).alloc L9 (Vc #[Y r.R.pd,U ah (Z r.R.ts) ch,U ab (Z r.bs) cb] 123);have s:=aG wr (Vc #[Y r.R.pd,U ah (Z r.R.ts) ch,U ab (Z r.bs) cb] 123);have L:=H d;have E:=H c;have M:=H e;have D:=H (And.intro p l);clear W c f d v S e q p l h;go_upto_region 4 with fail;generalize W:World.alloc wr _=w2 at*;have f:=b.trans (kA.mono b.size);have l:=(kA.block _ oy).trans o;have t2:=HT.block (f.block B pn);have m2:=HM.block (f.block mb pk);have a0:=(aj s 0).1;have a1:=(aj s 1).1;have a2:=(aj s 2).1;have q0:=(aj l 0).1;simp only[bt,aT,bx]at a0 a1 a2 q0;have d:=H f;have p:=H l
   by_cases S:Sp r.R.pd<k
   .have rL:decide ((Sp r.R.pd:Int)<k)=true:=oT;have c:=ag E;have v:=alW w2 u mb r K ⟨aQ c.hd f (λg e=>(c.hd.lt g e).2),c.bo.ai f,c.eq⟩ m2 M;rw[(ag D).1,D.2]at v;have HSY:=H v;clear c v W kA s e0 e1 e2 o b m2 f l;go_wp2_with(first|(at_lookup;refine Vn _ rfl _ _ 73 rfl 9 185 underlying9 underlying73 (zeroValue185 _) B n (bq A Sp) rfl t2 r.R.pd rfl V _ hu ?_)|(go_at_call 224;refine(HSY).mono ?_;rintro en w4⟨h,c,rfl,e⟩;have v:=H h;have t:=H e;clear h e;cases T:c))
    .rw[T]at t;go_ret;have kw:=d.trans (v.mono d.size);refine⟨kw,Bf,rfl,λh=>(by cases h),λh=>?_⟩;exact(t.2 (h r L S))
    rw[T]at t;go_roundg(Z a-(i+1))
    case measure=>omega
    case rel=>
     have kw:=d.trans (v.mono d.size);refine⟨i+1,O,rfl,oN,kw,(v.block _ (aM.1 p).1).trans p,λx e=>?_⟩;rw[ag N]at e;rcases aS.1 e with e|e
     .exact j x e
     rw[bu.1 e];exact λ_=>t.1 rfl
   have rL:decide ((Sp r.R.pd:Int)<k)=false:=oT;clear W kA s e0 e1 e2 o b m2 f l E M;go_wp2_with(at_lookup;refine Vn _ rfl _ _ 73 rfl 9 185 underlying9 underlying73 (zeroValue185 _) B n (bq A Sp) rfl t2 r.R.pd rfl V _ hu ?_);go_roundg(Z a-(i+1))
   case measure=>omega
   case rel=>
    refine⟨i+1,O,rfl,oN,d,p,λx e=>?_⟩;rw[ag N]at e;rcases aS.1 e with e|e
    .exact j x e
    rw[bu.1 e];exact λh=>absurd h S
  have tK:¬(i:Int)<Z a:=O
  have d:a.take i=a:=j7 O;rw[d]at j;clear q o b d;go_wp2;go_ret;exact⟨Dm,Bt,rfl,λ_=>j,λ_=>rfl⟩
def acG(rs:List PR)(Sp:B8->Nat)(m k:Nat)(ns:List (Nat×List Nat))(st:List gR):Prop:=k<=m/\lK rs ns []=P st/\(st.map (·.t)).Nodup/\A4 Sp k st/\Dh Sp k rs st
def acF(w:W8)(ps:P9)(Sp:B8->Nat)(a:Nat->List gR->Prop)(e:Ending)(w':W8):Prop:=
 Below (F (X w)) w w'/\∃m,mH ps Sp m/\((∃st mb,a m st/\e=Vr (Vt #[.map (P mb),Vb Bt])/\bQ w' mb (iE st))\/((∀st,¬a m st)/\e=Vr (Vt #[.map G,Vb Bf])))
def Ug{Sp k a b}:Ku Sp k a (iE b)↔Dh Sp k a b:=by unfold Ku AX Dh;rw[xK]
structure acE(w:W8)(base tb n:Nat)(ps:P9)(Sp:B8->Nat)(rs:List PR)(rv:V9)(ic:List ND)(nv:V9):Prop where
 bB:gi w base rv rs
 dI:∀r∈rs,kD ps r
 CP:oh w 0 nv ic
 dc:Z ic<=50
 ix:∀x∈ic,∃h:x.r<Z rs,Z x.fr=(aY rs[x.r].bs).length
 t:dt prog 9 w tb n (bq ps Sp)
 str:∀k,(bE ps k).isSome=Bt->Sp k<=1000000
def aat(b:List PR):∀(h:List (Nat×List Nat))(st a:List gR),lK b h st=P a->Z a=Z st+Z h
 | [],st,a,h=>by obtain rfl:=cI h;simp
 |x::q,st,a,h=>by
  rw[lK]at h
  split at h
  .cases h
  split at h
  .cases h
  have:=aat b q _ _ h;rw[this];simp;omega
def ale(w f tb n k ps Sp N ar cr d Q R)(h:acE w f tb n ps Sp N (U ar (Z N) cr) d (U Q (Z d) R)):Calls prog 122 #[Va #[I J (k:Nat),U Q (Z d) R],U ar (Z N) cr,.map (P tb)] w (acF w ps Sp (λm z=>acG N Sp m k (d.map gw) z)):=by
 have b:=H h;have pn:=h.t.lt;clear h;go_in;go_upto_region 1 with fail;have K:Below (F (X w)) w (Al w (Vc #[I J (k:Nat),U Q (Z d) R] 93)):=B9.alloc L9 _;have c:=aG w (Vc #[I J (k:Nat),U Q (Z d) R] 93);generalize(Al w (Vc #[I J (k:Nat),U Q (Z d) R] 93))=w0 at*;have oy:F (X w)<F (X w0):=(aM.1 c).1;have y:=(aj c 0).1;simp only[bt,aT]at y;have HC:=H (λ(W:W8)(B:Below (F (X w0)) w0 W)=>Un W tb n ps Sp (b.t.block ((K.trans (B.mono K.size)).block tb pn)) b.str);have D:=H (λ(W:W8)(B:Below (F (X w0)) w0 W)=>(B.cell (p:=(C (F (X w)) 0 G)) oy).trans y);have s:=H K;have l:=H c;clear K c
 go_cut [15] from 11 to 47 (λc wc=>∃m:Nat,c=Vb (decide ((m:Int)<(k:Int)))/\mH ps Sp m/\Below (F (X w0)) w0 wc)
 case first=>
  go_region_held3 (λV=>Ce V (C (F (X w)) 0 G)=P (I J (k:Nat))) (first|exact D _ V|exact D _ B9.drew) ((go_at_call 59;refine(HC _ (by first|exact B9.drew)).mono ?_;rintro en j⟨m,rfl,K,q⟩;have V:=jB q;have t:=ag D j V))
  all_goals
   go_wp2;go_meet
   case rel=>exact⟨_,by first|rfl|simp,K,V⟩
 case rest=>
  generalize wc=wA at*;obtain⟨m,rfl,K,V⟩:=hcut;have q:=s.trans (V.mono s.size);have j:=(V.block _ oy).trans l;have t:=H K;have E:=H q;have aoo:=H j
  by_cases IL:k<=m
  .have hd:decide ((m:Int)<(k:Int))=false:=oT;rw[hd];have q0:=(aj j 0).1;have q1:=(aj j 1).1;simp only[bt,aT,bx]at q0 q1
   have v:gi wA f (U ar (Z N) cr) N:=⟨aQ b.bB.row q (λg e=>(b.bB.row.lt g e).2),λr o=>by
    have:=b.bB.aK r o
    exact⟨aQ this.hd q (λg e=>(this.hd.lt g e).2),this.bo.ai q,this.eq⟩⟩
   have u:=H (amK wA f k N ar cr d Q R ⟨v,λr o=>(b.dI r o).l3,λr o x a=>((b.dI r o).ls x a).w.dc,λr o=>(b.dI r o).hd.w.dc,b.CP.ai q,b.dc,b.ix⟩);clear K V q v HC D s l y;have HQ1:=H (And.intro q0 q1)
   cases s:lK N (d.map gw) [] with
   |none=>
    rw[s]at u;have HO:=H s;clear s j;go_wp2_with(go_at_call 178;refine(u).mono ?_;rintro en wS⟨l,v,rfl,y⟩;have S:=H l;clear l y)
    go_ret2
    exact⟨E.trans (S.mono E.size),m,t,.inr ⟨λz h=>(by have A:=h.2.1;rw[ag HO]at A;cases A),rfl⟩⟩
   |some z=>
    rw[s]at u;have HO:=H s;have L:=J2 b.dI (d.map gw) [] z oS s;have EU:Z z<=50:=by have:=aat N _ _ _ s;have A:=b.dc;simp at this;omega
    have c:=H L;clear s L;go_upto_region 4 with(go_at_call 178;refine(u).mono ?_;rintro en wS⟨l,v,rfl,y⟩;have s:=y.row;simp only[yp]at s;obtain⟨sa,cs,rfl⟩:=aF s;have Dw:=H s;have S:=H l;clear l y s);have L:=E.trans (S.mono E.size);have y:=(S.block _ (aM.1 j).1).trans j;have HGA:=H (ag6 wS 0 z sa cs ⟨aX Dw (aI _)⟩ (λs l=>(c s l).ti.ok) EU (λs l=>(b.bB.aK _ (c s l).cH).one));have T:=H L;have abQ:=H y;have hsw:F (X w)<F (X wS):=(aM.1 y).1;clear q0 q1 j L y u;go_upto_region 7 with(go_at_call 179;refine(HGA).mono ?_;rintro en wG⟨u,hg⟩;have HBG:=H u;rcases hg with⟨L,rfl⟩|⟨L,rfl,y⟩)
    .have pC:=H L;clear L u;go_wp2
     go_ret2
     exact⟨T.trans (HBG.mono T.size),m,t,.inr ⟨λst' h=>(by have A:=h.2.1;rw[ag HO]at A;obtain rfl:=cI A;exact pC h.2.2.1),rfl⟩⟩
    have pC:=H L;have j:=T.trans (u.mono T.size);have i:=(u.block _ hsw).trans abQ;have q0:=(aj i 0).1;have q1:=(aj i 1).1;simp only[bt,aT,bx]at q0 q1;have Ou:=b.t.block (j.block tb pn);have M:∀r∈N,l6 wG f r:=λr o=>by
     have:=b.bB.aK r o;exact⟨aQ this.hd j (λg e=>(this.hd.lt g e).2),this.bo.ai j,this.eq⟩
    have ye:=H (af0 wG f (F (X wS)) tb n k (U Q (Z d) R) ps Sp z sa cs ⟨⟨aQ (aX Dw (aI _)) u (λg e=>(Dw.lt g e).2)⟩,EU,λs l=>M _ (c s l).cH,λs l=>(b.dI _ (c s l).cH).l3,λs l x a=>((b.dI _ (c s l).cH).ls x a).w.dc,λs l=>(c s l).qb.len,λs l a x=>⟨((c s l).qb.neg a x).ok,by have:=((b.dI _ (c s l).cH).neg a x).w.pd.le;omega,by rw[((b.dI _ (c s l).cH).neg a x).bn];rfl⟩,y,Ou⟩ Q (Z d) R rfl);have HMG:=H y;have a:=H j;have aop:=H i;have x:∀p∈iE z,il ps p.1:=λp hp=>by
     have:p.1∈(iE z).map (·.1):=fW hp;rw[xK]at this;obtain⟨s,l,e⟩:=aU.1 this;rw[<-e];exact(c s l).ti
    have p:=H (λ(W:W8)(B:Below (F (X wG)) wG W)=>aeA W f (F (X wS)) tb n k Q (Z d) R ps Sp ar cr N (iE z) ⟨aQ b.bB.row (j.trans (B.mono j.size)) (λg e=>(b.bB.row.lt g e).2),λr o=>by
      have:=M r o
      exact⟨aQ this.hd B (λg e=>(this.hd.lt g e).2),this.bo.ai B,this.eq⟩⟩ (y.block (B.block _ y.lt)) (Ou.block (B.block tb (oF j.size))) (λr o=>(MZ b.dI (iE z) x r o).1) (λr o=>⟨by have:=(b.dI r o).hd.w.pd.le;show r.R.pd.size<=800;have e:(cq r).p=r.R.pd:=rfl;rw[e]at this;omega,by have:=(b.dI r o).hd.bn;have e:(cq r).p=r.R.pd:=rfl;rw[e]at this;rw[this];rfl⟩))
    have r:F (X w)<F (X wG):=(aM.1 i).1;have o:=H (λ(W:W8)(B:Below (F (X wG)) wG W)=>(show Ce W (C (F (X w)) 0 G)=P (I J (k:Nat))/\Ce W (C (F (X w)) 1 G)=P (U Q (Z d) R) from ⟨(B.cell (p:=(C (F (X w)) 0 G)) r).trans q0,(B.cell (p:=(C (F (X w)) 1 G)) r).trans q1⟩));have B:=y.lt;clear L j i Ou M y x u;go_wp2_with(first|(go_at_call 180;refine(ye).mono ?_;rintro en g⟨y,c1,rfl,x⟩;obtain⟨_,_⟩:=o g y;have u:=H y;have M:=H x;have L:=H (p g y);clear y x;cases W:c1<;>rw[W]at M)|(go_at_call 181;refine(L).mono ?_;rintro en wE⟨x,c2,rfl,j⟩;have i:=H x;have y:=H j;clear x j;cases j:c2<;>rw[j]at y))
    .go_ret2
     exact⟨a.trans (u.mono a.size),m,t,.inr ⟨λst' h=>(by have A:=h.2.1;rw[ag HO]at A;obtain rfl:=cI A;exact absurd (M.2 h.2.2.2.1) oS),rfl⟩⟩
    .go_ret2
     exact⟨a.trans ((u.trans (i.mono u.size)).mono a.size),m,t,.inr ⟨λst' h=>(by have A:=h.2.1;rw[ag HO]at A;obtain rfl:=cI A;exact absurd (y.2 (Ug.2 h.2.2.2.2)) oS),rfl⟩⟩
    go_ret2
    have x:=u.trans (i.mono u.size);exact⟨a.trans (x.mono a.size),m,t,.inl ⟨z,_,⟨IL,HO,pC,M.1 (by trivial),Ug.1 (y.1 (by trivial))⟩,rfl,HMG.block (x.block _ B)⟩⟩
  have hd:decide ((m:Int)<(k:Int))=true:=oT
  rw[hd];clear K V q HC D;go_wp2
  go_ret2
  exact⟨E,m,t,.inr ⟨λz h=>IL h.1,rfl⟩⟩
variable {c0 c1 c2 c3 c4 c5 c6 c7 c9 et eu dv dy eh dn cJ cF bX bY bZ b7 b8 cc cd cg ck cm cy cz cC cD cE cK cL cM cQ cR cS cT cU cV cW cX cY cZ da cN cO de dh cG dz dA dB dC dD dE dF dG dH dO dP dQ dR ei ev ew ey ez eP eQ eR eS eT eU eV eA eB dW dX dY eC eD eE eF eG eH eI eJ eW eX eY eZ e8 e9 fa fi ee dN:V9}
def rO(A:aR)(l:List aP):List B8:=(l.filter λf=>(gY [] A f.aH).isSome).map (·.text)
def agC{A l k}(h:k<Z l):rO A (l.take (k+1))=rO A (l.take k)++if(gY [] A l[k].aH).isSome then [l[k].text] else []:=by
 unfold rO;rw[jr h,LP,fg]
 by_cases a:(gY [] A l[k].aH).isSome=Bt<;>simp[a]
structure To(w:W8)(ab:Nat)(A:aR)(aa:O8)(ca base:Nat)(fs:List FG)(v:V9):Prop where
 lt:ab<F (X w)
 a0:Ce w (C ab 0 G)=P (Y A.ax)
 a1:Ce w (C ab 1 G)=P (U aa (Z A.aq) ca)
 a2:Ce w (C ab 2 G)=P (Vb A.no)
 a3:Ce w (C ab 3 G)=P (I J A.aC)
 a4:Ce w (C ab 4 G)=P (I J A.aO)
 row:Ow w 0 317 3 (U aa (Z A.aq) ca) (Z A.aq) (cellsOf A.aq)
 dc:Z A.aq<=100
 bV:gV w base v fs
 sm:Z fs<=50
structure BR(w:W8)(v:V9)(zs:List B8)(wr:W8):Prop where
 ai:Below (F (X w)) w wr
 row:Ow wr (F (X w)) 9 1 v (Z zs) (zs.map Y)
def BR.zm{w v b wr a}(h:BR w v b wr)(k:Below (F (X wr)) wr a):BR w v b a:=⟨h.ai.trans (k.mono h.ai.size),aQ h.row k (λg e=>(h.row.lt g e).2)⟩
def akO(w c A M N base a al cl)(k:To w c A M N base a (U al (Z a) cl)){Q} (v:∀i f w2 q u T D u16 E b K z e g m n o S s B V y t h W p x r L j R u62 u63 u64 u65 u66 u67 u68 u69 u70 u71 u72 u73 u74 u75 u76 u77 u78 u79 u80 u81 u82 u83 u84 u85 u86 u87 u88 u89 u90 u91 u92 u93 u94 u95 u96 u97 u98 u99 l d,BR w i f w2->tA f->f.Perm (rO A (a.map (·.F)))->Q (.exit 0) ⟨List.toArray (c0::c1::c2::c3::c4::c5::c6::c7::Vp (P (C c 0 G))::c9::U al (Z a) cl::i::q::u::T::D::u16::eh::dn::cJ::cF::bX::bY::bZ::b7::b8::cc::cd::cg::ck::cm::cy::cz::cC::cD::cE::cK::cL::cM::E::b::K::z::e::g::m::n::o::S::s::B::V::y::t::h::W::p::x::r::L::j::R::u62::u63::u64::u65::u66::u67::u68::u69::u70::u71::u72::u73::u74::u75::u76::u77::u78::u79::u80::u81::u82::u83::u84::u85::u86::u87::u88::u89::u90::u91::u92::u93::u94::u95::u96::u97::u98::u99::l::d::dN::[]),[]⟩ w2):Code.wp prog (Code.loop (ZS 0)) Q ⟨List.toArray (c0::c1::c2::c3::c4::c5::c6::c7::Vp (P (C c 0 G))::c9::U al (Z a) cl::U G 0 0::I J 0::et::eu::dv::dy::eh::dn::cJ::cF::bX::bY::bZ::b7::b8::cc::cd::cg::ck::cm::cy::cz::cC::cD::cE::cK::cL::cM::cQ::cR::cS::cT::cU::cV::cW::cX::cY::cZ::da::cN::cO::de::dh::cG::dz::dA::dB::dC::dD::dE::dF::dG::dH::dO::dP::dQ::dR::ei::ev::ew::ey::ez::eP::eQ::eR::eS::eT::eU::eV::eA::eB::dW::dX::dY::eC::eD::eE::eF::eG::eH::eI::eJ::eW::eX::eY::eZ::e8::e9::fa::fi::ee::dN::[]),[]⟩ w:=by
 conv=>arg 2;arg 1;whnf
 have kK:=k.sm;have HC:=H k;have HX:=H v;clear k v
 go_loopg [11,12] (Z a) (λd v q wr=>∃(i:Nat)(l:List B8),i<=Z a/\(Z l)<=i/\d=Z a-i/\q=I J i/\BR w v l wr/\tA l/\l.Perm (rO A ((a.map (·.F)).take i)))
 exact⟨0,[],O,oS,O,rfl,⟨aZ _ _,dm _ _ _ _⟩,List.Pairwise.nil,by simp[rO]⟩
 case round=>
  obtain⟨i,l,hi,hzi,Ci,rfl,q,u,d⟩:=hrel;obtain⟨T,eM,rfl⟩:=aF q.row;have D:=H q;have HR:=H u;have k:=ag HC
  by_cases E:i<Z a
  .have Ad:(i:Int)<Z a:=O;have b:=agC (A:=A) (l:=a.map (·.F)) (k:=i) (oU E);rw[nB]at b;have K:=q.ai.size;have z:=aQ k.bV.row q.ai (λg e=>(k.bV.row.lt g e).2);obtain⟨n,cl',E6,-,o,Cu,pk,m⟩:=qB z E;injection E6 with S i2 v
   subst S v;have z0:=m 0 oD;have S:=m 1 oD;have z2:=m 2 oD;have z3:=m 3 oD;have z4:=m 4 oD;have z5:=m 5 oD;simp only[FG.cells,bx,aT,iy]at z0 S z2 z3 z4 z5;have v:=(k.bV.aK _ (aN E)).t;obtain⟨V,s,B⟩:=aF v;rw[B]at S;have y:=k.row;have y0:=(q.ai.cell (p:=(C c 0 G)) k.lt).trans k.a0;have y1:=(q.ai.cell (p:=(C c 1 G)) k.lt).trans k.a1;have y2:=(q.ai.cell (p:=(C c 2 G)) k.lt).trans k.a2;have y3:=(q.ai.cell (p:=(C c 3 G)) k.lt).trans k.a3;have y4:=(q.ai.cell (p:=(C c 4 G)) k.lt).trans k.a4;have t:=iz k.lt K;have h:∀W,Below (F (X wr)) wr W->Calls prog 139 #[Va #[U G 0 0,U G 0 0],Va #[Y A.ax,U M (Z A.aq) N,Vb A.no,I J A.aC,I J A.aO],Va #[Y a[i].F.aH.ax,U V a[i].F.aH.aq.length s,Vb a[i].F.aH.no,I J a[i].F.aH.aC,I J a[i].F.aH.aO]] W (DY W (U G 0 0) (U G 0 0) (gY [] A a[i].F.aH)):=λW x=>by
    have p:=q.ai.trans (x.mono K);rw[B]at v;exact Qk W 0 [] A a[i].F.aH G G M V 0 0 N s ⟨dm _ _ _ _,dm _ _ _ _,oS⟩ (aX (aQ y p (λg e=>(y.lt g e).2)) (aI _)) (aX (aQ v p (λg e=>(v.lt g e).2)) (aI _)) (by have:=k.dc;simpa using by omega)
   have x:=H h;have r:=H b;have L:=H d;clear k q z m y v h b B u d;generalize a[i].F.aH=m at*;generalize a[i].F.text=y at*
   have HK:Hid (∀W v:W8,Below (F (X wr)) wr W->Below (F (X W)) W v->Ce v (C n (i*10) G)=P (Y m.ax)/\Ce v (C n (i*10+1) G)=P (U V (Z m.aq) s)/\Ce v (C n (i*10+2) G)=P (Vb m.no)/\Ce v (C n (i*10+3) G)=P (I J m.aC)/\Ce v (C n (i*10+4) G)=P (I J m.aO)/\Ce v (C c 0 G)=P (Y A.ax)/\Ce v (C c 1 G)=P (U M (Z A.aq) N)/\Ce v (C c 2 G)=P (Vb A.no)/\Ce v (C c 3 G)=P (I J A.aC)/\Ce v (C c 4 G)=P (I J A.aO)):=H (λW v B h=>by
    have p:=B.trans (h.mono B.size)
    exact⟨(p.cell (oU o)).trans z0,(p.cell (oU o)).trans S,(p.cell (oU o)).trans z2,(p.cell (oU o)).trans z3,(p.cell (oU o)).trans z4,(p.cell (oU t)).trans y0,(p.cell (oU t)).trans y1,(p.cell (oU t)).trans y2,(p.cell (oU t)).trans y3,(p.cell (oU t)).trans y4⟩)
   have dl:¬n=F (X wr):=O;have db:¬c=F (X wr):=O;go_upto_region 13 with fail
   go_cut [14] from 39 to 101 (λz wc=>z=Vb (gY [] A m).isSome/\Below (F (X wr)) wr wc)
   case first=>
    clear r D
    cases z:gY [] A m with
    |none=>
     rw[z]at x
     go_region_held3 (λv=>Ce v (C n (i*10) G)=P (Y m.ax)/\Ce v (C n (i*10+1) G)=P (U V (Z m.aq) s)/\Ce v (C n (i*10+2) G)=P (Vb m.no)/\Ce v (C n (i*10+3) G)=P (I J m.aC)/\Ce v (C n (i*10+4) G)=P (I J m.aO)/\Ce v (C c 0 G)=P (Y A.ax)/\Ce v (C c 1 G)=P (U M (Z A.aq) N)/\Ce v (C c 2 G)=P (Vb A.no)/\Ce v (C c 3 G)=P (I J A.aC)/\Ce v (C c 4 G)=P (I J A.aO)) (first|go_keep|(refine⟨?_,?_,?_,?_,?_,?_,?_,?_,?_,?_⟩<;>(refine(C6 ?_).trans ?_<;>assumption))) ((go_at_call 139;refine(x _ oB).mono ?_;rintro e w2⟨W,B,-⟩;obtain rfl:=B rfl;obtain⟨m0,m1,m2,m3,m4,m5,m6,m7,m8,m9⟩:=ag HK _ _ oB W;have yS:=λ(j:Nat) h=>W.cell (p:=(C (F (X wr)) j G)) h;have yU:=λ(j:Nat) h=>W.frozen (p:=(C (F (X wr)) j G)) h;clear B))
     all_goals
      go_wp2;go_meet
      case rel=>
       rw[z]
       first|exact⟨rfl,(M3.qw (r:=G) (W:=wr.drew) B9.drew W (λ_ h=>by cases h)).ai⟩|exact⟨rfl,(M3.ahead (r:=G) (W:=(Al wr (Vc #[U G 0 0,U G 0 0] 258)).drew) oA.drew L9 (aG wr _) W (λ_ h=>by cases h)).ai⟩
    |some E'=>
     rw[z]at x
     go_region_held3 (λv=>Ce v (C n (i*10) G)=P (Y m.ax)/\Ce v (C n (i*10+1) G)=P (U V (Z m.aq) s)/\Ce v (C n (i*10+2) G)=P (Vb m.no)/\Ce v (C n (i*10+3) G)=P (I J m.aC)/\Ce v (C n (i*10+4) G)=P (I J m.aO)/\Ce v (C c 0 G)=P (Y A.ax)/\Ce v (C c 1 G)=P (U M (Z A.aq) N)/\Ce v (C c 2 G)=P (Vb A.no)/\Ce v (C c 3 G)=P (I J A.aC)/\Ce v (C c 4 G)=P (I J A.aO)) (first|go_keep|(refine⟨?_,?_,?_,?_,?_,?_,?_,?_,?_,?_⟩<;>(refine(C6 ?_).trans ?_<;>assumption))) ((go_at_call 139;refine(x _ oB).mono ?_;rintro e w2⟨W,-,R⟩;obtain⟨nR,jG,rfl,v⟩:=R E' rfl;obtain⟨TF,Uh,yC,Uq,B,e22⟩:=v.shape;subst B e22;have B:=H v;obtain⟨m0,m1,m2,m3,m4,m5,m6,m7,m8,m9⟩:=ag HK _ _ oB W;have yS:=λ(j:Nat) h=>W.cell (p:=(C (F (X wr)) j G)) h;have yU:=λ(j:Nat) h=>W.frozen (p:=(C (F (X wr)) j G)) h;clear R v))
     all_goals
      go_wp2;go_meet
      case rel=>
       rw[z]
       first|exact⟨rfl,(M3.qw (r:=P E') (W:=wr.drew) B9.drew W (λ_ h=>by cases h;exact B)).ai⟩|exact⟨rfl,(M3.ahead (r:=P E') (W:=(Al wr (Vc #[U G 0 0,U G 0 0] 258)).drew) oA.drew L9 (aG wr _) W (λ_ h=>by cases h;exact B)).ai⟩
   case rest=>
    generalize wc=R at*;obtain⟨rfl,v⟩:=hcut;have W:=D.zm v;have z5A:=(v.cell (p:=(C n (i*10+5) G)) o).trans z5;have agK:=iz o v.size;have hsA:=W.ai.size;clear HK x D z0 S z2 z3 z4 z5 y0 y1 y2 y3 y4 v K
    cases z:(gY [] A m).isSome with
    |false=>have b:=ag r;rw[z]at b;simp only[qi,pG,kO]at b;have D:=H W;have v:=H (show l.Perm (rO A ((a.map (·.F)).take (i+1))) by rw[b];exact L);clear b r L W z;go_wp2;go_roundg(Z a-(i+1));exact⟨i+1,l,O,O,rfl,oN,D,HR,v⟩;omega
    |true=>
     have b:=ag r;rw[z]at b;simp only[lM]at b;have v:=H (show ∀f:List B8,f.Perm (l++[y])->f.Perm (rO A ((a.map (·.F)).take (i+1))) from λf h=>by rw[b];exact h.trans (S4 _ L));obtain⟨i0,sF,gB,dx,cB⟩:=info_parts apu;have B:=H (W.row.alloc (Vc #[Y y] 9));have j:=H (CR (Al R (Vc #[Y y] 9)) (F (X R)) (Y y) 9 (aG R _));have S:=H (λ(K:W8)(hg:(Al R (Vc #[Y y] 9)).grownBy K (U T (Z l) eM).ownBlock)=>ib (W.ai.alloc hsA (Vc #[Y y] 9)) (ak.jF hg) oT (λx hx=>(W.row.lt x (oU hx)).1));clear b r L W z;go_wp2_with(at_builtin;go_must (refine wpList_append_lies _ rfl _ _ _ rfl (F (X w)) 9 i0 (Y ⟨#[]⟩) 1 16 underlying33 sF gB dx cB rfl oD (U T (Z l) eM) (Z l) (l.map Y) rfl B (C (F (X R)) 0 G) 1 1 [Y y] rfl rfl j (by simp[Value.oneCell']) oD oM O oT _ rfl ?_;intro g z K W x b rP));have HB:=H (S K x);have r:=H (show tD K (F (X w)) (U (P (C g 0 G)) (Z l+1) z) (Z l+1) (l++[y]) K from ⟨ak.refl _ _,by simpa using W⟩);have Ck:=(W.lt g rfl).1;clear W x b rP S B j z5A agK;go_wp2_with fail;refine akP K (F (X w)) (P (C g 0 G)) (Z l+1) z O l y (Z l) rfl rfl HR r ?_;intro f w6;intros;rename_i B S j;have W:=j.length_eq;simp only[br,ff,kB,lZ]at W;have D:=H (show BR w (U (P (C g 0 G)) (Z l+1) z) f w6 from ⟨ib HB B.kept HB.size (λb x=>by simp[Value.ownBlock]at x;omega),by rw[W];exact B.row⟩);have b:=H W;have K4:=H S
     have x:=H (v f j);clear B S j W r HB v;go_wp2;go_roundg(Z a-(i+1));exact⟨i+1,f,O,by rw[ag b];omega,rfl,oN,D,K4,x⟩;omega
  have Ad:¬((i:Int)<Z a):=O
  have e:i=Z a:=O
  have L:=H (show l.Perm (rO A (a.map (·.F))) by rw[e,j7 oS]at d;exact d);clear k q u d e;go_wp2_with fail;apply HX
  .exact D
  .exact HR
  exact L
def aaQ(s:B8):∀(f p:Nat)(a:Int)(l:List ie),(lj s f p a l).1.length<=Z l+f
 | 0,_,_,l=>by simp[lj]
 |f+1,p,a,l=>by
  rw[lj]
  split
  .refine bf (aaQ s f _ _ _) ?_;simp;omega
  simp
def adJ(s):(aJ s).aq.length<=5:=by
 show(bA s 0 (-1)).1.length<=5
 unfold bA
 split
 .exact bf (aaQ s 5 _ _ _) oS
 simp
inductive vk (w:W8)(ps:P9)(S:Nat->Nat)(rs:List bg)(s:B8)(limit:Int)(w':W8):V9->Nat->Prop
 |arg:limit<1\/50<limit->vk w ps S rs s limit w' (U G 0 0) 8
 |ask:1<=limit->limit<=50->iZ ps s=Bf->vk w ps S rs s limit w' (U G 0 0) 6
 |over:1<=limit->limit<=50->iZ ps s=Bt->kH ps S rs limit.toNat (jQ S (Z ps)) 0 [] G->vk w ps S rs s limit w' (U G 0 0) 7
 |yes {v:V9} {zs:List B8} {l:List aP}:1<=limit->limit<=50->iZ ps s=Bt->kH ps S rs limit.toNat (jQ S (Z ps)) 0 [] (P l)->Z l<=50->Ow w' (F (X w)) 9 1 v (Z zs) (zs.map Y)->tA zs->zs.Perm (rO (aJ s) l)->vk w ps S rs s limit w' v 0
def acu(w:W8)(ps:P9)(S:Nat->Nat)(rs:List bg)(s:B8)(limit:Int)(e:Ending)(w':W8):Prop:=
 ∃v n,e=Vr (Vt #[v,I J (n:Nat)])/\vk w ps S rs s limit w' v n/\Below (F (X w)) w w'
def sw.ai{w o e c f d g a S i}(h:sw w o e c f d g a S)(b:Below (F (X w)) w i):sw i o e c f d g a S:=
 ⟨h.prog.kept ((ak.refl [] _).bC b) oS,h.sf.kept ((ak.refl [] _).bC b),h.body,h.gS,h.xx⟩
def akQ(w o u p K E L Q S)(k:sw w o u p K E L Q S)(A:∀i,i<Z p->S i<=1000000)(s)(D:s.size<=maxLen)(a):Calls prog 88 #[Vp (P (C o 0 G)),Y s,I J a] w (acu w p S (u.map (·.R)) s a):=by
 have M:=H k;have T:=H A;clear k A;go_in
 by_cases h1:a<1
 .go_wp2
  go_ret2
  exact⟨_,8,rfl,.arg (.inl h1),aZ _ _⟩
 by_cases h2:50<a
 .go_wp2
  go_ret2
  exact⟨_,8,rfl,.arg (.inr h2),aZ _ _⟩
 obtain⟨k,rfl⟩:∃k:Nat,a=k:=⟨a.toNat,O⟩;have A:1<=(k:Int):=O
 have B:(k:Int)<=50:=O
 go_wp2_with fail;refine(MI w o u p K E L _ M.prog s D).mono ?_;rintro e x⟨v,rfl,j⟩;obtain⟨h,m,rfl⟩:=aF j.row;have b:=H j;clear j;unfold aR.val
 cases j:iZ p s with
 |false=>
  have f:=H j;clear j;go_wp2
  go_ret2
  exact⟨_,6,rfl,.ask A B f,by first|exact(b).ai|exact(b).ai.alloc b.ai.size _⟩
 |true=>
  have f:=H j;clear j;go_wp2_with fail;have n:=(b.ai.alloc b.ai.size (Vc #[Y (aJ s).ax,U h (aJ s).aq.length m,Vb (aJ s).no,I J (aJ s).aC,I J (aJ s).aO] 243));have q:=λj=>tG x (Y (aJ s).ax) (U h (aJ s).aq.length m) (Vb (aJ s).no) (I J (aJ s).aC) (I J (aJ s).aO) 243 j
  have j:=b.row.alloc (Vc #[Y (aJ s).ax,U h (aJ s).aq.length m,Vb (aJ s).no,I J (aJ s).aC,I J (aJ s).aO] 243);have c:F (X x)<(Al x (Vc #[Y (aJ s).ax,U h (aJ s).aq.length m,Vb (aJ s).no,I J (aJ s).aC,I J (aJ s).aO] 243)).heap.size:=oS
  generalize Al x (Vc #[Y (aJ s).ax,U h (aJ s).aq.length m,Vb (aJ s).no,I J (aJ s).aC,I J (aJ s).aO] 243)=W at*;generalize(F (X x))=l at*;have t:=M.ai n;have d:=H n;have N:=H (λ(y:W8)(v:V9)(r:List FG)(i:su W v r y)(R:Z r<=50)=>(show To y l (aJ s) h m (F (X W)) r v from ⟨iz c i.ai.size,(i.ai.cell (p:=(C l 0 G)) c).trans (q 0),(i.ai.cell (p:=(C l 1 G)) c).trans (q 1),(i.ai.cell (p:=(C l 2 G)) c).trans (q 2),(i.ai.cell (p:=(C l 3 G)) c).trans (q 3),(i.ai.cell (p:=(C l 4 G)) c).trans (q 4),aX (aQ j i.ai (λg e=>(j.lt g e).2)) (aI _),bf (adJ s) oD,i.bV,R⟩));clear q j b n;refine(Pg W o u p K E L Q S t T k O).mono ?_;rintro e y⟨v,b,rfl,hO⟩;clear t
  cases hO with
  |no t j=>
   have n:=H (d.trans (t.mono d.size));have q:=H j;clear t j;go_wp2
   go_ret2
   exact⟨_,7,rfl,.over A B f (oU (ag q)),n⟩
  |yes i R q=>
   rename_i r;obtain⟨al,cl,rfl⟩:=aF i.bV.row;have n:=d.trans (i.ai.mono d.size);have j:=H n;have z:=H (N y _ r i O);have V:=H q;clear i q N n;go_wp2_with fail;refine akO y l (aJ s) h m (F (X W)) r al cl z ?_;intro v11 zs w4;intros;rename_i i n q;obtain⟨a4,c4,rfl⟩:=aF i.row;have t:=j.trans (i.ai.mono j.size);have N:=H (show vk w p S (u.map (·.R)) s k w4 (U a4 (Z zs) c4) 0 from .yes A B f (oU (ag V)) oT (aX i.row j.size) n q);have g:=H t;clear i n q t;go_wp2
   go_ret2
   exact⟨_,0,rfl,N,g⟩
def Zk:∀(L y:P9),mE L y->(∀k n,bE y k=P n->bE (iU L y) k=P n)/\∀x∈L,bE (iU L y) x.1=P x.2
 | [],y,_=>⟨λ_ _ h=>h,oS⟩
 |x::r,y,h=>by
  obtain⟨L,c⟩:=h;obtain⟨b,f⟩:=Zk r (jh y x.1 x.2) c;rw[iU];have d:bE (jh y x.1 x.2) x.1=P x.2:=by rw[Px L,aD rfl]
  refine⟨λk n h=>b k n ?_,λy a=>?_⟩
  .rw[Px L]
   by_cases e:k=x.1
   .rw[aD e];rw[vR]at L;rw[e]at h;rw[h]at L;have k:n=x.2:=(oU L);rw[k]
   rw[aB e];exact h
  rcases bS.1 a with rfl|a
  .exact b _ _ d
  exact f y a
variable {b:List aR}
def QB :∀(a:List ie),gX b a<0->∀t∈a,t.jv=Bt->lg t.text b=Bt
 | [],_,t,a,_=>by cases a
 |u::r,h,t,a,hv=>by
  rw[gX]at h
  split at h
  .omega
  rename_i c;rcases bS.1 a with rfl|a
  .simp only[hv,Br,zL,Bool.not_eq_false]at c;exact c
  exact QB r h t a hv
def Yy :∀(l:List aR),mP b l<0->∀A∈l,A.no=Bt->gX b A.aq<0
 | [],_,A,l,_=>by cases l
 |B::r,h,A,l,hn=>by
  rw[mP]at h
  by_cases c:0<=(if B.no then gX b B.aq else -1)
  .rw[aD c]at h
   by_cases a:B.no=Bt
   .rw[aD a]at c;omega
   rw[aB a]at c;omega
  rw[aB c]at h;rcases bS.1 l with rfl|l
  .rw[aD hn]at c;omega
  exact Yy r h A l hn
def abd:∀(a:List bg),iF a<0->∀R∈a,gX R.body R.ay.aq<0/\mP R.body R.body<0
 | [],_,R,a=>by cases a
 |Q::r,h,R,a=>by
  rw[iF]at h
  split at h
  .omega
  rename_i c;rcases bS.1 a with rfl|a
  .unfold uL at c
   split at c
   .omega
   constructor<;>omega
  exact abd r h R a
variable {a:B8}
def aaf(h:lg a b=Bt):∃v∈kL b,((Bt,a):tw)∈v.ts:=by unfold lg at h;obtain⟨A,c,h⟩:=va.1 h;unfold C5 at h;simp only[pE,va]at h;obtain⟨d,u,f,v⟩:=h;unfold vO at v;simp only[pE]at v;have e:=kJ.1 v.2;refine⟨pa A,aU.2 ⟨A,gI.2 ⟨c,d⟩,rfl⟩,aU.2 ⟨u,f,?_⟩⟩;unfold fV;rw[v.1,e]
def alS(h:(eK a).1=Bt):iF (bT a).1<0:=by
 unfold eK at h
 by_cases s:800<a.size
 .rw[aD s]at h;cases h
 rw[aB s]at h
 by_cases b:0<=(bT a).2.2
 .rw[aD b]at h;cases h
 rw[aB b]at h
 by_cases c:0<=(bh a).1
 .rw[aD c]at h;cases h
 rw[aB c]at h
 by_cases d:0<=iF (bT a).1
 .rw[aD d]at h;cases h
 omega
def AJ(h:(eK a).1=Bt){o}(k:o.map (·.R)=(dL a).2.2.1)(c:∀r∈o,r.bs.map (·.1)=r.R.body):qu (bh a).2 (bT a).1 o:=by
 have g:=pL h;have n:=g.bB;have s:=abd _ (alS h);have j:∀x∈(dL a).2.2.1.flatMap jl,bE (bh a).2 x.1=P x.2:=by have:=(Zk _ _ g.Ei).2;rw[g.oz]at this;exact this
 have f:∀r∈o,∃R∈(bT a).1,nD R r:=λr b=>by
  have:r.R∈(bT a).1.map fm:=by rw[<-n,<-k];exact aU.2 ⟨r,b,rfl⟩
  obtain⟨R,m,e⟩:=aU.1 this;exact⟨R,m,e.symm,c r b⟩
 refine⟨λR m=>?_,f,λr b=>?_⟩
 .have:fm R∈o.map (·.R):=by rw[k,n];exact aU.2 ⟨R,m,rfl⟩
  obtain⟨r,b,e⟩:=aU.1 this;exact⟨r,b,e,c r b⟩
 obtain⟨R,m,hrel⟩:=f r b;have d:r.R∈(dL a).2.2.1:=by rw[<-k];exact aU.2 ⟨r,b,rfl⟩
 have y:=PU a r.R d;have w:=g.body r.R d;have i:∀x∈r.bs,x.1∈r.R.body:=λx l=>by rw[<-c r b];exact aU.2 ⟨x,l,rfl⟩
 refine⟨?_,⟨y.1,j (r.R.pd,Z r.R.ts) (gh.2 ⟨r.R,d,by simp[jl]⟩)⟩,λx l=>⟨y.2 _ (i x l),j (x.1.pd,x.1.ts.length) (gh.2 ⟨r.R,d,?_⟩)⟩,λt p v=>?_,λx l t p v=>?_⟩
 .rw[<-c r b,bF]at w;exact w
 .simp only[jl,bS,aU];exact .inr ⟨x.1,i x l,rfl⟩
 .rw[hrel.hd]at p;obtain⟨u,q,rfl⟩:=aU.1 p;have x:u.jv=true:=v;have:=aaf (QB _ (s R m).1 u q x);rw[hrel.pos];unfold fV;rw[x];exact this
 rw[hrel.neg]at l;obtain⟨A,t,rfl⟩:=aU.1 l;obtain⟨t,l⟩:=gI.1 t;obtain⟨u,q,rfl⟩:=aU.1 p;have x:u.jv=true:=v;have:=aaf (QB _ (Yy _ (s R m).2 A t l) u q x);rw[hrel.pos];unfold fV;rw[x];exact this
def PK(q):qL q=if vt q then P (pa (aJ q)) else none:=by
 have h:=MN q 0 (-1) oD (aI _);unfold qL vt
 cases a:ik q 0 with
 |no r=>rw[a]at h;have p:=h;rw[p,aB];simp;intro h;omega
 |yes p i j k=>
  rw[a]at h;obtain⟨b,d,f,_,g⟩:=h;rw[b];have K:=pw q p g;have e:(⟨i,j⟩:du)=pa (aJ q):=by rw[d,f];rfl
  simp only
  by_cases c:(az q p).kind=46
  .rw[aD (K.k0.2 c),aD (by simp[c]),e]
  rw[aB (λh=>c (K.k0.1 h)),aB (by simp[c])]
def Zv{q A}(h:qL q=P A):qR A.p A.ts:=by
 unfold qL at h
 split at h
 .cases h
 rename_i p b d c a
 split at h
 .cases h;exact FE a
 cases h
def amT(a A):xO a A=jg a A.p (Z A.ts):=by
 unfold xO
 cases b:bE a A.p with
 |none=>exact(by rw[vR,b]:jg a A.p (Z A.ts)=Bt)▸rfl
 |some m=>
  by_cases e:m=Z A.ts
  .have:jg a A.p (Z A.ts)=true:=by rw[vR,b,e];simp
   rw[this];simp[e]
  have:¬jg a A.p (Z A.ts)=true:=by rw[vR,b];simpa using e
  simp[e,this]
def TM(a q):pe a q=if iZ a q then P (pa (aJ q)) else none:=by
 unfold pe iZ;rw[PK]
 by_cases c:vt q=Bt
 .rw[aD c,c];simp only[Br];rw[amT];have:(pa (aJ q)).ts.length=(bA q 0 (-1)).1.length:=by simp[pa,aJ]
  rw[this];rfl
 rw[aB c];have:vt q=false:=by simpa using c
 rw[this];simp
def OX{α:Type}{w:W8}{base:Nat}{e:TypeId}{v:V9}{l:List α}{f:α->V9}(h:Ow w base e 1 v (Z l) (l.map f))(k:Nat)(hk:k<Z l):∃g a,v=U (P (C g 0 G)) (Z l) a/\base<=g/\g<F (X w)/\(Z l)<=a/\a<=maxLen/\Ce w (C g k G)=P (f l[k]):=by
 have b:l.map f=l.flatMap λx=>[f x]:=by
  clear h hk
  induction l with
  |nil=>rfl
  |cons x r c=>rw[ir,lY,c];rfl
 rw[b]at h;obtain⟨g,a,j,r,d,c,i,m⟩:=gu (f:=λx=>[f x]) (λ_=>rfl) h k hk;have:=m 0 oS;simp only[yo,iy,aT]at this;exact⟨g,a,j,r,d,c,i,this⟩
def lG(A:aR):Bool:=A.aq.all λt=>!t.jv
def Vo(w f A a c)(h:Ow w f 317 3 (U a (Z A.aq) c) (Z A.aq) (cellsOf A.aq)):Calls prog 131 #[Va #[Y A.ax,U a (Z A.aq) c,Vb A.no,I J A.aC,I J A.aO]] w λe i=>e=Vr (Vb (lG A))/\Below (F (X w)) w i:=by
 have i:=(aZ (F (X w)) w).alloc L9 (Vc #[Y A.ax,U a (Z A.aq) c,Vb A.no,I J A.aC,I J A.aO] 243);have p:(Al w (Vc #[Y A.ax,U a (Z A.aq) c,Vb A.no,I J A.aC,I J A.aO] 243)).heap[F (X w)]?=_:=aG w _;have e:=H (h.alloc (Vc #[Y A.ax,U a (Z A.aq) c,Vb A.no,I J A.aC,I J A.aO] 243));have m:=H i;have j:=ej h;unfold maxLen at j;clear h i;go_in;go_wp2_with fail;generalize(Al w (Vc #[Y A.ax,U a (Z A.aq) c,Vb A.no,I J A.aC,I J A.aO] 243))=q at*;obtain⟨_,_⟩:=aj p 1
 go_loopg [3] (Z A.aq) (λt i wr=>∃k:Nat,k<=Z A.aq/\t=Z A.aq-k/\i=I J k/\wr=q/\(A.aq.take k).all (λt=>!t.jv)=Bt)
 exact⟨0,aI _,rfl,rfl,rfl,oS⟩
 case round=>
  obtain⟨k,_,_,rfl,rfl,i⟩:=hrel
  by_cases d:k<Z A.aq
  .obtain⟨_,_,b,-,_,_,_,o⟩:=gu (f:=ie.cells) (λ_=>rfl) e k d;injection b with l n h
   subst l h;have l:=o 1 O;simp only[ie.cells,aT,bx]at l;have h:(A.aq.take (k+1)).all (λt=>!t.jv)=!A.aq[k].jv:=by rw[jr d,List.all_append,i];simp
   have g:=H h;clear o h
   cases b:A.aq[k].jv with
   |true=>
    have h:lG A=false:=by
     unfold lG;rw[<-DH,List.all_eq_true];intro n;have:=n _ (aN d);rw[b]at this
     cases this
    have t:=H h;rw[b]at l;clear i h b g;go_wp2;go_ret;exact⟨by rw[ag t];rfl,m⟩
   |false=>rw[b]at l;have h:=H (g.trans (by rw[b]));clear i b g;go_wp2;go_roundg(Z A.aq-(k+1));exact⟨k+1,O,rfl,oN,rfl,h⟩;omega
  have h:lG A=true:=by
   have:k=Z A.aq:=O
   rw[this,vd]at i;exact i
  have t:=H h;clear h i;go_wp2;go_ret;exact⟨by rw[ag t];rfl,m⟩
def nu(B:Nat->Bool):List aP->Nat->Nat->(Nat->Nat)->List Nat->Nat×List Nat
 | [],_,n,_,out=>(n,out)
 |f::r,i,n,pl,out=>if B i then nu B r (i+1) (n+1) (gz pl i n) (out++f.r::f.fr.map (gz pl i n)) else nu B r (i+1) n pl out
def iQ(x:Nat):V9:=I .u8 ((x:Int)%256)
def lU(k:Nat)(l:List aP)(B:Nat->Bool):List Nat:=k::(nu B l 0 0 (λ_=>0) []).1::(nu B l 0 0 (λ_=>0) []).2
def aoc{B l k n pl out}(h:k<Z l):nu B (l.drop k) k n pl out=if B k then nu B (l.drop (k+1)) (k+1) (n+1) (gz pl k n) (out++l[k].r::l[k].fr.map (gz pl k n)) else nu B (l.drop (k+1)) (k+1) n pl out:=by rw[dM h];rfl
structure ub(w:W8)(gb n:Nat)(B:Nat->Bool):Prop where
 sz:gb<F (X w)
 cell:∀i,i<n->Ce w (C gb i G)=P (Vb (B i))
 fz:∀j,w.frozen? (C gb j G)=Bf
variable {a b:Nat}{f:Nat->Bool}{c d:W8}
def ub.ai(h:ub c a b f)(k:Below (F (X c)) c d):ub d a b f:=
 ⟨iz h.sz k.size,λi j=>(k.cell (p:=(C a i G)) h.sz).trans (h.cell i j),λj=>(k.frozen (p:=(C a j G)) h.sz).trans (h.fz j)⟩
variable {e:List Nat}
def jW.amw{S}(h:jW d a b S)(k:ak e d c)(B:a∉e):jW c a b S:=
 ⟨iz h.sz k.size,λi j=>(k.cell (p:=(C a i G)) h.sz B).trans (h.cell i j),λj=>(k.frozen (p:=(C a j G)) h.sz B).trans (h.fz j)⟩
structure uw(w:W8)(base gb:Nat)(v1:V9)(fs:List FG)(B:Nat->Bool)(pl:Nat->Nat)(out:List Nat)(v9:V9)(wr:W8):Prop where
 ai:Below (F (X w)) w wr
 place:jW wr (F (X w)) (Z fs) pl
 row:Ow wr (F (X w)+1) 5 1 v9 (Z out) (out.map iQ)
variable {g:List FG}{j:Nat->Nat}{h i:V9}
def uw.bV(w:uw c a b h g f j e i d)(B:gV c a h g):gV d a h g:=B.ai w.ai
def uw.one{wr B x o}(k:uw c b a h g f j e i d)(q:(Al d o).grownBy B i.ownBlock)(w:Ow B (F (X c)+1) 5 1 wr (Z e+1) (e.map iQ++[iQ x])):uw c b a h g f j (e++[x]) wr B:=by
 have p:=k.ai.size;have r:=k.place.sz;have m:ak i.ownBlock.toList d B:=(((ak.refl _ d).alloc o).trans (ak.jF q));have l:∀x∈i.ownBlock.toList,F (X c)+1<=x:=λx n=>(k.row.lt x (oU n)).1
 refine⟨ib k.ai m p (λx n=>by have:=l x n;omega),k.place.amw m (λn=>by have:=l _ n;omega),?_⟩;rw[br,sq,fg];exact w
def adH(w b n c)(h:n<=c)(a d g):(Builtin.append_ #[47,47] g #[U b n c,U a 0 d]).run prog w=.ok (U b n c) w:=by
 obtain⟨f,e,_,_,_⟩:=info_parts zg;refine run_append_nothing w _ _ _ 5 f underlying47 e b n c h _ ?_
 cases a with
 |none=>exact Src.ofNil w underlying47 d
 |some a=>exact Src.ofSlice w underlying47 a 0 d [] oS oS oS
def anN(l:List Nat):∀u∈l.map iQ,u.oneCell'=true:=λu a=>by
 obtain⟨_,_,rfl⟩:=aU.1 a;rfl
def uw.put{w a d f c B e b g wr}(h:uw w a d f c B e b g wr){i}(j:i<Z c)(n):uw w a d f c B (gz e i n) b g (Sc wr (C (F (X w)) i G) (I J n)):=
 ⟨h.ai.setCell L9 _,h.place.set i n j,fh (a:=(C (F (X w)) i G)) h.row oS _⟩
def Rj(w)(s gb k:Nat)(a1 c1 c B)(i:gV w s (U a1 (Z c) c1) c)(h:ub w gb (Z c) B)(kK:Z c<=50)(a:∀f∈c,Z f.F.fr<=3/\∀x∈f.F.fr,x<Z c):Calls prog 141 #[I J k,U a1 (Z c) c1,U (P (C gb 0 G)) (Z c) (Z c)] w λe R=>∃v,e=Vr v/\Ow R (F (X w)) 5 1 v (lU k (c.map (·.F)) B).length ((lU k (c.map (·.F)) B).map iQ)/\Below (F (X w)) w R:=by
 obtain⟨i0,hi,R,S,T⟩:=info_parts zg;have vH:=Fw (Z c) O;have m:uw w s gb (U a1 (Z c) c1) c B (λ_=>0) [] (U G 0 0) (Al w (Vc (madeCells #[I J 0] (Z c)) 3)):=⟨B9.alloc L9 _,jW.start w (Z c),dm _ _ _ _⟩;have HF:=H i;have HB:=H h;have ue:=H a;have f:=H m;clear i h a m;go_in;go_wp2
 go_loopg [8,9,10] (Z c) (λgg d v9 l wr=>∃(i n:Nat)(h:Nat->Nat)(a:List Nat),i<=Z c/\gg=Z c-i/\d=I J n/\l=I J i/\n<=i/\(Z a)<=4*i/\uw w s gb (U a1 (Z c) c1) c B h a v9 wr/\nu B ((c.map (·.F)).drop i) i n h a=nu B (c.map (·.F)) 0 0 (λ_=>0) [])
 exact⟨0,0,λ_=>0,[],aI _,rfl,rfl,rfl,bD _,oS,f,rfl⟩
 case round=>
  clear f;obtain⟨i,n,h,a,_,_,rfl,rfl,vJ,_,f,hrel⟩:=hrel;obtain⟨a9,c9,rfl⟩:=aF f.row;have Xv:=f.ai.size
  by_cases l:i<Z c
  .have d:=HB.ai f.ai;have E:=d.cell i l;have o:=f.bV HF;obtain⟨g,_,hv,-,N,_,_,M⟩:=qB o.row l;injection hv with y h2 L
   subst y L;have W:=M 8 O;have V:=M 9 O;simp only[FG.cells,aT,bx]at W V;have m:=aoc (B:=B) (l:=c.map (·.F)) (k:=i) (n:=n) (pl:=h) (out:=a) (oU l);have p:=o.aK c[i] (aN l);obtain⟨agz,D⟩:=ue c[i] (aN l);have Q:=H p;have HG:=H N;rw[nB]at m;generalize z:c[i]=u at*;have t:=H m;have q:=H f;have b:=H hrel;clear m M o p f hrel d
   cases m:B i with
   |false=>rw[m]at E;have d:=H (t.symm.trans b);clear t b;have K:=H (show nu B ((c.map (·.F)).drop (i+1)) (i+1) n h a=nu B (c.map (·.F)) 0 0 (λ_=>0) [] from by have:=ag d;rw[m]at this;exact this);clear d W V m;go_wp2;go_roundg(Z c-(i+1));exact⟨i+1,n,h,a,O,rfl,rfl,oN,O,O,q,K⟩;omega
   |true=>
    rw[m]at E;have K:=H (show nu B ((c.map (·.F)).drop (i+1)) (i+1) (n+1) (gz h i n) (a++u.F.r::u.F.fr.map (gz h i n))=nu B (c.map (·.F)) 0 0 (λ_=>0) [] from by have:=t.symm.trans b;rw[m]at this;exact this);clear t b m;obtain⟨b,_,_⟩:=u;simp only at W V agz D;have m:=Q.i;simp only at m;obtain⟨_,_,rfl⟩:=aF m;clear m;have u:=q.put l n;have Ap:=q.place.cell i l;have hpf:=q.place.fz i;have agZ:=q.place.sz;have t:=u.row.alloc (Vc #[I .u8 ((b.r:Int)%256)] 5);have HP:=H u;have Dk:=H z;clear u q z
    have q:=H (by
     have u:=aG (Sc wr (C (F (X w)) i G) (I J n)) (Vc #[I .u8 ((b.r:Int)%256)] 5);rw[Me]at u
     exact World.news_of_block u)
    have Ck:=(HF.row.lt g rfl).2;have rR:g≠(F (X w)):=O;have ap9:(F (X w))≠g:=O;go_wp2_with(at_builtin;refine ka _ rfl _ _ 47 rfl (F (X w)+1) 5 i0 _ 1 1 underlying47 hi R S T rfl oD _ _ _ rfl t (C (F (X wr)) 0 G) 1 1 [iQ b.r] rfl rfl q (by intro u hu;rw[bu.1 hu];rfl) oM O oT ?_);intro v5 w5 d z A;clear A;obtain⟨a5,c5,rfl⟩:=aF d;have j:=HP.one z d;have r:=H j;clear d z j t W V Ap hpf Q E HP HG N;go_wp2
    go_loopg [9,11] (Z b.fr) (λgg v9 E Q=>∃j:Nat,j<=Z b.fr/\gg=Z b.fr-j/\E=I J j/\uw w s gb (U (P (C g 0 G)) (Z c) c1) c B (gz h i n) (a++b.r::(b.fr.take j).map (gz h i n)) v9 Q)
    exact⟨0,aI _,rfl,rfl,by simpa using ag r⟩
    case round=>
     clear r;obtain⟨j,_,_,rfl,f⟩:=hrel;obtain⟨_,T5,rfl⟩:=aF f.row;have hsz:=f.ai.size;have o:=f.bV HF;obtain⟨_,_,xw,-,N,-,-,M⟩:=qB o.row l;injection xw with y h2 L
     injection y with y
     injection y with y
     subst y L;have V:=M 9 O;have p:=o.aK c[i] (aN l);rw[ag Dk]at V p;simp only[FG.cells,aT,bx]at V;have m:=p.i;simp only[nM]at m
     by_cases Q:j<Z b.fr
     .obtain⟨_,_,E5,-,_,_,_,_⟩:=OX m j Q;injection E5 with y h2 L
      subst y L;have Xz:=D _ (aN Q);have hpc:=f.place.cell _ Xz;have apf:=f.place.sz;have t:=f.row.alloc (Vc #[I .u8 ((gz h i n b.fr[j]:Nat)%256)] 5);have E:(a++b.r::(b.fr.take j).map (gz h i n)).length<=300:=oT;have y:(a++b.r::(b.fr.take j).map (gz h i n))++[gz h i n b.fr[j]]=a++b.r::(b.fr.take (j+1)).map (gz h i n):=by rw[jr Q,fg,ir,vc];simp only[qT,jA]
      have L:=H y;have HH:=H f;clear f M o p m y;generalize b.fr[j]=x at*;generalize hS:gz h i n x=y at*;generalize hO:a++b.r::(b.fr.take j).map (gz h i n)=ajz at*;go_wp2_with(at_builtin;refine ka _ rfl _ _ 47 rfl (F (X w)+1) 5 i0 _ 1 1 underlying47 hi R S T rfl oD _ _ _ rfl t (C (F (X wr)) 0 G) 1 1 [iQ y] rfl rfl (World.news_of_block (aG wr _)) (by intro u hu;rw[bu.1 hu];rfl) oM O oT ?_);intro v6 w6 r IF W;clear W;obtain⟨_,_,rfl⟩:=aF r;have W:=H (HH.one IF r);clear r IF;go_wp2;go_roundg(Z b.fr-(j+1));exact⟨j+1,O,rfl,oN,by rw[<-ag L];exact W⟩;omega
     have y:j=Z b.fr:=O;subst y;rw[vd]at f;have HH:=H f;have E:(a++b.r::b.fr.map (gz h i n)).length<=4*(i+1):=oT;clear f M o p m;generalize hO:a++b.r::b.fr.map (gz h i n)=ajz at*;go_wp2;go_roundg(Z c-(i+1));exact⟨i+1,n+1,gz h i n,_,O,rfl,oN,oN,O,E,HH,K⟩;omega
  have t:i=Z c:=O
  subst t;have t:nu B (c.map (·.F)) 0 0 (λ_=>0) []=(n,a):=by rw[<-hrel,gE oS];rfl
  have D:lU k (c.map (·.F)) B=k::n::a:=by unfold lU;rw[t]
  have K:=H D;have hsz:=f.ai.size;have agZ:=f.place.sz;have u:Ow (Al wr (Vc #[I .u8 ((k:Int)%256),I .u8 ((n:Int)%256)] 5)) (F (X w)) 5 1 (U (P (C (F (X wr)) 0 G)) 2 2) 2 [iQ k,iQ n]:=World.ownsRow_lit wr _ 2 O oM rfl;have g:=f.ai.alloc O (Vc #[I .u8 ((k:Int)%256),I .u8 ((n:Int)%256)] 5);have E:=H g;have m:=H u;clear vJ
  cases a with
  |nil=>have j:=H (adH (Al wr (Vc #[I .u8 ((k:Int)%256),I .u8 ((n:Int)%256)] 5)) (P (C (F (X wr)) 0 G)) 2 2 L9 a9 c9);clear hrel t f D u g;go_wp2_with(at_builtin;go_must (refine abw rfl _ _ _ rfl _ _ rfl rfl j ?_));go_ret;exact⟨_,rfl,by rw[ag K];exact m,E⟩
  |cons M Q=>
   generalize hO:M::Q=a at*;have N:0<Z a:=(by rw[<-hO];simp);obtain⟨p,T5,V,-⟩:=OX f.row 0 N;injection V with j y b
   subst j b;have q:=H (aa2 (f.row.alloc (Vc #[I .u8 ((k:Int)%256),I .u8 ((n:Int)%256)] 5)));have j:=H (λ(w5:W8)(v:V9)(v:(Al wr (Vc #[I .u8 ((k:Int)%256),I .u8 ((n:Int)%256)] 5)).grownBy w5 (U (P (C (F (X wr)) 0 G)) 2 2).ownBlock)=>(show Below (F (X w)) w w5 from ib g (ak.jF v) g.size (λb o=>by simp[Value.ownBlock]at o;omega)));clear hrel t f D u g hO;go_wp2_with(at_builtin;go_must (refine ka _ rfl _ _ 47 rfl (F (X w)) 5 i0 _ 1 1 underlying47 hi R S T rfl oD _ _ _ rfl m (C p 0 G) (Z a) c9 (a.map iQ) rfl oS q (anN a) oM O oT ?_));intro v5 w5 d z A;clear A;have A:=H (j w5 v5 z);obtain⟨a5,c5,rfl⟩:=aF d;have g:=H d;clear d z j;go_wp2;go_ret;refine⟨_,rfl,?_,A⟩;have e:(k::n::a).length=2+Z a:=(by rw[ff,ff];omega);rw[ag K,e];exact g
variable {c8 ed fo fp fq ft fu fM fN fO fP fw fx fy fC fD fE fF fG fH fj fk fl fI fJ fK fL eO dV gJ gK gL gM gN OT ja jb jc jd je iJ ma me mf mg mh mi mj mm ln lp lq lr lu lx ly lz lA lB mn mo mq mr:V9}
noncomputable def Nb(k:Nat):Code:=((f91.body.map sM).getD []).getD k .skip
def lS(l:List aP)(i:Nat):Nat:=(l[i]?.map (·.s)).getD 0
def lH(l:List aP)(i:Nat):Nat:=(l[i]?.map (·.h)).getD 0
def lF(l:List aP)(i:Nat):List Nat:=(l[i]?.map (·.fr)).getD []
def ea(B:Nat->Bool)(i:Nat)(v:Bool):Nat->Bool:=λj=>if j=i then v else B j
def nP(B:Nat->Bool)(fr:List Nat):Nat->Bool:=fr.foldl (λB x=>ea B x Bt) B
def CC(l:List aP)(s:Nat)(B:Nat->Bool)(i:Nat):Nat->Bool:=if(B i||decide (lS l i<s))=Bt then nP (ea B i Bt) (lF l i) else ea B i Bf
def rS(l:List aP)(s:Nat):Nat->(Nat->Bool)->Nat->Bool
 | 0,B=>B
 |i+1,B=>rS l s i (CC l s B i)
variable {b:Nat->Bool}
def ub.set{w b n B}(h:ub w b n B)(i v)(d:i<n):ub (Sc w (C b i G) (Vb v)) b n (ea B i v):=by
 refine⟨by simpa using h.sz,λa c=>?_,λj=>by simpa using h.fz j⟩
 by_cases e:a=i
 .subst e;rw[z6 (h.cell a c)];simp[ea]
 rw[tH O,h.cell a c];simp[ea,e]
def ub.eq{n B}(h:ub c a n b)(e:∀i,i<n->b i=B i):ub c a n B:=⟨h.sz,λi w=>by rw[h.cell i w,e i w],h.fz⟩
def YE :∀(i:List Nat)(B:Nat->Bool),B a=Bt->nP B i a=Bt
 | [],_,h=>h
 |x::r,B,h=>YE r _ (by show ea B x Bt a=Bt;unfold ea;split<;>simp[h])
def YD{B j}(h:a<Z j):nP B (j.take (a+1))=ea (nP B (j.take a)) j[a] true:=by unfold nP;rw[jr h,LR];rfl
structure kN(w0:W8)(n:Nat)(B:Nat->Bool)(wr:W8):Prop where
 ai:Below (F (X w0)) w0 wr
 row:ub wr (F (X w0)) n B
def kN.set{w0}(h:kN w0 a b c)(i v)(n:i<a):kN w0 a (ea b i v) (Sc c (C (F (X w0)) i G) (Vb v)):=⟨h.ai.setCell L9 _,h.row.set i v n⟩
variable {d:Exit->Act->W8->Prop}
def UT(w0 w f k q r a)(z:gV w0 f (U q (Z a) r) a)(E:Z a<=50)(B)(y:kN w0 (Z a) B w)(j:∀A u16 o m c Q l g n p b h e s t u v x,kN w0 (Z a) (λi=>decide (lS (a.map (·.F)) i<k)) A->d (.exit 0) ⟨List.toArray (c0::c1::c2::c3::c4::c5::c6::c7::c8::c9::ed::U q (Z a) r::U (P (C (F (X w0)) 0 G)) (Z a) (Z a)::et::I J k::dv::u16::eh::dn::cJ::cF::bX::bY::bZ::b7::b8::cc::cd::cg::ck::cm::cy::cz::cC::cD::cE::cK::cL::cM::cQ::cR::cS::cT::cU::cV::cW::cX::cY::cZ::da::cN::cO::de::dh::cG::dz::dA::dB::dC::dD::dE::dF::dG::dH::dO::dP::dQ::dR::ei::ev::ew::ey::ez::o::m::c::Q::l::g::n::p::b::h::e::s::t::u::v::x::eG::eH::eI::eJ::eW::eX::eY::eZ::e8::e9::fa::fi::ee::dN::fo::fp::fq::ft::fu::fM::fN::fO::fP::fw::fx::fy::fC::fD::fE::fF::fG::fH::fj::fk::fl::fI::fJ::fK::fL::eO::dV::gJ::gK::gL::gM::gN::OT::ja::jb::jc::jd::je::iJ::ma::me::mf::mg::mh::mi::mj::mm::ln::lp::lq::lr::lu::lx::ly::lz::lA::lB::mn::mo::mq::mr::[]),[]⟩ A):Code.wp prog (Code.loop (Nb 0)) d ⟨List.toArray (c0::c1::c2::c3::c4::c5::c6::c7::c8::c9::ed::U q (Z a) r::U (P (C (F (X w0)) 0 G)) (Z a) (Z a)::et::I J k::dv::I J 0::eh::dn::cJ::cF::bX::bY::bZ::b7::b8::cc::cd::cg::ck::cm::cy::cz::cC::cD::cE::cK::cL::cM::cQ::cR::cS::cT::cU::cV::cW::cX::cY::cZ::da::cN::cO::de::dh::cG::dz::dA::dB::dC::dD::dE::dF::dG::dH::dO::dP::dQ::dR::ei::ev::ew::ey::ez::eP::eQ::eR::eS::eT::eU::eV::eA::eB::dW::dX::dY::eC::eD::eE::eF::eG::eH::eI::eJ::eW::eX::eY::eZ::e8::e9::fa::fi::ee::dN::fo::fp::fq::ft::fu::fM::fN::fO::fP::fw::fx::fy::fC::fD::fE::fF::fG::fH::fj::fk::fl::fI::fJ::fK::fL::eO::dV::gJ::gK::gL::gM::gN::OT::ja::jb::jc::jd::je::iJ::ma::me::mf::mg::mh::mi::mj::mm::ln::lp::lq::lr::lu::lx::ly::lz::lA::lB::mn::mo::mq::mr::[]),[]⟩ w:=by
 conv=>arg 2;arg 1;whnf
 have s:=H z;have t:=H j;have c:=H y;clear z j y
 go_loopg [16] (Z a) (λy j wr=>∃(i:Nat)(o:Nat->Bool),i<=Z a/\y=Z a-i/\j=I J i/\kN w0 (Z a) o wr/\∀j,j<i->o j=decide (lS (a.map (·.F)) j<k))
 exact⟨0,B,aI _,rfl,rfl,c,λj m=>O⟩
 case round=>
  clear c;obtain⟨i,o,N,K,rfl,c,m⟩:=hrel;have S:=c.ai.size
  by_cases Q:i<Z a
  .have l:=s.ai c.ai;obtain⟨g,z,T,-,L,R,D,y⟩:=qB l.row Q;injection T with n W p
   subst n p;have V:=y 6 O;simp only[FG.cells,aT,bx]at V;have M:=(s.row.lt g rfl).2;have v:=c.row.cell i Q;have x:=c.row.fz i;have A:=c.row.sz;have n:lS (a.map (·.F)) i=a[i].F.s:=by unfold lS;rw[gP,dr Q];rfl
   have p:=H (λ(b:Bool)(u:b=decide (a[i].F.s<k))=>(show ∀j,j<i+1->ea o i b j=decide (lS (a.map (·.F)) j<k) from λj h=>by
    unfold ea
    split
    .rename_i e;subst e;rw[n];exact u
    exact m j O))
   have j:=H (λb:Bool=>c.set i b Q);clear y l c m n;generalize a[i].F.s=b at*
   by_cases n:b<k
   .have l:(b:Int)<k:=O;go_wp2;go_roundg(Z a-(i+1));exact⟨i+1,_,O,rfl,oN,j Bt,p Bt (by simp[n])⟩;omega
   have l:¬(b:Int)<k:=O;go_wp2;go_roundg(Z a-(i+1));exact⟨i+1,_,O,rfl,oN,j Bf,p Bf (by simp[n])⟩;omega
  have b:i=Z a:=O
  subst b;have p:=H (show kN w0 (Z a) (λi=>decide (lS (a.map (·.F)) i<k)) wr from ⟨c.ai,c.row.eq m⟩);clear c m;go_wp2_with fail;apply t;exact p
def UU(w0 w c g i T a)(hf:gV w0 c (U (P (C g 0 G)) (Z a) T) a)(S:i<Z a)(m:∀x∈a[i].F.fr,x<Z a)(B)(W:kN w0 (Z a) B w)(j:∀w2 V n h o Q q e b f l k p r s t u v y z A D E K L M N R,kN w0 (Z a) (if B i=Bt then nP B a[i].F.fr else B) w2->d (.exit 4) ⟨List.toArray (c0::c1::c2::c3::c4::c5::c6::c7::c8::c9::ed::U (P (C g 0 G)) (Z a) T::U (P (C (F (X w0)) 0 G)) (Z a) (Z a)::et::eu::dv::dy::I J i::V::cJ::cF::bX::bY::bZ::b7::b8::cc::cd::cg::ck::cm::cy::cz::cC::cD::cE::cK::cL::cM::cQ::cR::cS::cT::cU::cV::cW::cX::cY::cZ::da::cN::cO::de::dh::cG::dz::dA::dB::dC::dD::dE::dF::dG::dH::dO::dP::dQ::dR::ei::ev::ew::ey::ez::eP::eQ::eR::eS::eT::eU::eV::eA::eB::dW::dX::dY::eC::eD::eE::eF::eG::eH::eI::eJ::eW::eX::eY::eZ::e8::e9::fa::fi::ee::dN::fo::fp::fq::ft::fu::fM::fN::fO::fP::fw::fx::fy::fC::fD::fE::fF::fG::fH::fj::fk::fl::n::h::o::Q::q::e::b::f::l::k::p::r::s::t::u::v::y::z::A::D::E::K::L::M::N::R::ln::lp::lq::lr::lu::lx::ly::lz::lA::lB::mn::mo::mq::mr::[]),[]⟩ w2):Code.wp prog (Code.loop (Nb 2)) d ⟨List.toArray (c0::c1::c2::c3::c4::c5::c6::c7::c8::c9::ed::U (P (C g 0 G)) (Z a) T::U (P (C (F (X w0)) 0 G)) (Z a) (Z a)::et::eu::dv::dy::I J i::I J 0::cJ::cF::bX::bY::bZ::b7::b8::cc::cd::cg::ck::cm::cy::cz::cC::cD::cE::cK::cL::cM::cQ::cR::cS::cT::cU::cV::cW::cX::cY::cZ::da::cN::cO::de::dh::cG::dz::dA::dB::dC::dD::dE::dF::dG::dH::dO::dP::dQ::dR::ei::ev::ew::ey::ez::eP::eQ::eR::eS::eT::eU::eV::eA::eB::dW::dX::dY::eC::eD::eE::eF::eG::eH::eI::eJ::eW::eX::eY::eZ::e8::e9::fa::fi::ee::dN::fo::fp::fq::ft::fu::fM::fN::fO::fP::fw::fx::fy::fC::fD::fE::fF::fG::fH::fj::fk::fl::fI::fJ::fK::fL::eO::dV::gJ::gK::gL::gM::gN::OT::ja::jb::jc::jd::je::iJ::ma::me::mf::mg::mh::mi::mj::mm::ln::lp::lq::lr::lu::lx::ly::lz::lA::lB::mn::mo::mq::mr::[]),[]⟩ w:=by
 conv=>arg 2;arg 1;whnf
 have D:=H hf;have v:=H j;have E:=H W;have t:=H m;clear hf j W m;have j:∀wr,kN w0 (Z a) (λ_=>Bf) wr\/Below (F (X w0)) w0 wr->∃m n,Ce wr (C g (i*10+9) G)=P (U m a[i].F.fr.length n)/\Ow wr c 3 1 (U m a[i].F.fr.length n) a[i].F.fr.length (a[i].F.fr.map λ(x:Nat)=>I J x)/\g<F (X w0):=λwr h=>by
  have b:Below (F (X w0)) w0 wr:=h.elim (λh=>h.ai) id;have o:=D.ai b;obtain⟨_,_,k,-,_,-,-,s⟩:=qB o.row S;injection k with Q K p
  injection Q with Q
  injection Q with Q
  subst Q;have q:=s 9 O;simp only[FG.cells,aT,bx]at q;have h:=(o.aK a[i] (aN S)).i;simp only[nM]at h;obtain⟨m,n,e⟩:=aF h;rw[e]at q h;exact⟨m,n,q,h,(D.row.lt g rfl).2⟩
 have o:=H j;clear j;generalize a[i].F.fr=b at*
 cases s:B i with
 |false=>
  go_loopg [18] 0 (λA k wr=>k=I J 0/\kN w0 (Z a) B wr)
  exact⟨rfl,E⟩
  case round=>
   obtain⟨rfl,e⟩:=hrel;obtain⟨m,n,q,h,z⟩:=ag o wr (.inr e.ai);have f:=e.row.cell i S;have y:=e.row.sz;rw[s]at f;have l:=ej h;unfold maxLen at l;have r:=H (show kN w0 (Z a) (if B i=Bt then nP B b else B) wr from by rw[s];exact e);clear e h
   by_cases j:0<Z b
   .go_wp2_with fail;apply v;exact r
   have N:Z b=0:=O;go_wp2_with fail;apply v;exact r
 |true=>
  go_loopg [18] (Z b) (λA k wr=>∃j:Nat,j<=Z b/\A=Z b-j/\k=I J j/\kN w0 (Z a) (nP B (b.take j)) wr)
  exact⟨0,aI _,rfl,rfl,E⟩
  case round=>
   obtain⟨j,_,_,rfl,e⟩:=hrel;obtain⟨m,n,q,h,z⟩:=o wr (.inr e.ai);have f:=e.row.cell i S;have y:=e.row.sz;have N:=e.ai.size;rw[YE _ B s]at f;have l:=ej h;unfold maxLen at l
   by_cases k:j<Z b
   .obtain⟨_,_,A,-,_,_,_,_⟩:=OX h j k;injection A with Q K p
    subst Q p;have p:=ag t _ (aN k);have M:=e.row.cell _ p;have L:=e.row.fz b[j];have W:=H (e.set _ Bt p);have Q:=YD (B:=B) k;have u:=H Q;clear e h Q;generalize b[j]=x at*;go_wp2;go_roundg(Z b-(j+1));exact⟨j+1,O,rfl,oN,by rw[ag u];exact W⟩;omega
   have p:j=Z b:=O;subst p;rw[vd]at e;have r:=H (show kN w0 (Z a) (if B i=Bt then nP B b else B) wr from by rw[s];exact e);clear e h;go_wp2_with fail;apply v;exact r
def rW(x:Nat×List Nat):List Nat:=x.1::x.2
def yF(k:Nat)(ns:List (Nat×List Nat)):List Nat:=k::(Z ns)::ns.flatMap rW
structure zu(w:W8)(out:List Nat)(v:V9)(wr:W8):Prop where
 k:Below (F (X w)) w wr
 row:Ow wr (F (X w)+1) 5 1 v (Z out) (out.map iQ)
def zu.add{w a v v' wr W w5 x}(h:zu w a v wr)(b:Below (F (X wr)) wr W)(c:W.grownBy w5 v.ownBlock)(d:Ow w5 (F (X w)+1) 5 1 v' (Z a+1) (a.map iQ++[iQ x])):zu w (a++[x]) v' w5:=by
 have g:=h.k.size;refine⟨⟨c.os.trans (b.os.trans h.k.os),c.tape.trans (b.tape.trans h.k.tape),c.output.trans (b.output.trans h.k.output),bf h.k.size (bf b.size c.size),λi f=>?_⟩,?_⟩
 .have:=b.size;rw[c.block i O (λe=>by have:=(h.row.lt i e.symm).1;omega),b.block i O];exact h.k.block i f
 rw[br,sq,fg];exact d
def abE(w:W8)(L:List Nat)(e:Ending)(w':W8):Prop:=
 ∃(a:O8)(c:Nat),e=Vr (U a (Z L) c)/\Ow w' (F (X w)) 5 1 (U a (Z L) c) (Z L) (L.map iQ)/\Below (F (X w)) w w'
def aek(w A k z D b)(h:oh w A (U z (Z b) D) b)(S:Z b<=50)(R:∀x∈b,Z x.fr<=3):Calls prog 43 #[Va #[I J (k:Nat),U z (Z b) D]] w (abE w (yF k (b.map gw))):=by
 obtain⟨i0,hi,M,N,Q⟩:=info_parts zg;have a:=H h;have HF:=H R;have HL:=H S;clear h R S;go_in;go_upto_region 2 with fail;generalize h:World.alloc (World.alloc w _) _=R;have i:Below (F (X w)) w R:=by rw[<-h];exact((aZ (F (X w)) w).alloc L9 _).alloc oS _
 have v:Ow R (F (X w)+1) 5 1 (U (P (C (F (X w)+1) 0 G)) 2 2) 2 ([k,Z b].map iQ):=by rw[<-h];have:=World.ownsRow_lit (base:=F (X w)+1) (size:=1) (e:=5) (Al w (Vc #[I J (k:Nat),U z (Z b) D] 93)) #[I .u8 ((k:Int)%256),I .u8 ((Z b:Int)%256)] 2 oS oM rfl;rw[bL]at this;exact this
 have S:Ce R (C (F (X w)) 1 G)=P (U z (Z b) D):=by
  have o:R.heap[F (X w)]?=P (Vc #[I J (k:Nat),U z (Z b) D] 93):=by rw[<-h,aW _ _ _ oS];exact aG w _
  exact(aj o 1).1
 have o:=H (show zu w (k::(Z b)::((b.take 0).map gw).flatMap rW) (U (P (C (F (X w)+1) 0 G)) 2 2) R from ⟨i,v⟩);clear h i v;go_upto_region 3 with fail;clear S
 go_loopg [3,19] (Z b) (λh v i wr=>∃c:Nat,c<=Z b/\h=Z b-c/\i=I J c/\(k::(Z b)::((b.take c).map gw).flatMap rW).length<=2+4*c/\zu w (k::(Z b)::((b.take c).map gw).flatMap rW) v wr)
 exact⟨0,aI _,rfl,rfl,oS,o⟩
 case round=>
  clear o;obtain⟨c,_,_,rfl,o,i⟩:=hrel;obtain⟨h,f⟩:∃h,h=k::(Z b)::((b.take c).map gw).flatMap rW:=⟨_,rfl⟩;rw[<-f]at o i;obtain⟨ao,co,rfl⟩:=aF i.row
  by_cases n:c<Z b
  .obtain⟨x,e⟩:∃x,x=b[c]:=⟨_,rfl⟩;have u:x∈b:=(by rw[e];exact aN n);obtain⟨g,_,hv,_,K,_,_,s⟩:=gu Jk a.row c n;injection hv with y p m
   subst y m;have y:=a.aK x u;obtain⟨q,r,m⟩:=aF y;have e0:Ce wr (C g (c*2) G)=P (I J (x.r:Nat)):=(by rw[e];exact(i.k.cell (p:=(C g (c*2) G)) K).trans (s 0 O));have e1:Ce wr (C g (c*2+1) G)=P (U q (Z x.fr) r):=(by rw[<-m,e];exact(i.k.cell (p:=(C g (c*2+1) G)) K).trans (s 1 O));have kf:(c:Int)<Z b:=O;have hf3:=ag HF x u;have aoT:=ag HL;have WX:Z h<=300:=O
   have E:=H (show k::(Z b)::((b.take (c+1)).map gw).flatMap rW=h++x.r::x.fr by
    rw[jr n,fg,oc,f,<-e]
    simp[rW,gw])
   have T:=H (show(h++x.r::x.fr).length<=2+4*(c+1) by simp;omega);have l:=(i.row.alloc (Vc #[I J (x.r:Nat),U q (Z x.fr) r] 150)).alloc (Vc #[I .u8 ((x.r:Int)%256)] 5);have j:=H (World.news_of_block (aG (Al wr (Vc #[I J (x.r:Nat),U q (Z x.fr) r] 150)) (Vc #[I .u8 ((x.r:Int)%256)] 5)));rw[bL]at j;have d:=H i;have t:=H y;have V:=H m;have W:=i.k.size;clear s i e u p y m f o;go_upto_region 6 with(at_builtin;refine ka _ rfl _ _ 47 rfl (F (X w)+1) 5 i0 _ 1 1 underlying47 hi M N Q rfl oD _ _ _ rfl l (C (F (X wr)+1) 0 G) 1 1 [iQ x.r] rfl rfl j (by intro u hu;rw[bu.1 hu];rfl) oM O oT ?_;intro v5 w5 e y s;clear s;obtain⟨a5,c5,rfl⟩:=aF e;have s:=H e;have p:=H y;clear e y);have i:=ag d;have y:=p;have L:Below (F (X wr)) wr (Al (Al wr (Vc #[I J (x.r:Nat),U q (Z x.fr) r] 150)) (Vc #[I .u8 ((x.r:Int)%256)] 5)):=((aZ (F (X wr)) wr).alloc L9 _).alloc oS _;have m:=i.add L y s;have B:w5.heap[F (X wr)]?=P (Vc #[I J (x.r:Nat),U q (Z x.fr) r] 150):=by rw[y.block (F (X wr)) oW (λe=>by have:=(i.row.lt _ e.symm).2;omega),aW _ _ _ oS];exact aG wr _
   have S:=(aj B 1).1;simp only[bt,aT,bx]at S;have H5:=H (show zu w (h++x.r::x.fr.take 0) (U a5 (Z h+1) c5) w5 from by simpa using m);clear i y L m B l j e0 e1 p s d W;generalize(F (X wr))=xb at*;go_upto_region 7 with fail;clear S
   go_loopg [3,32] (Z x.fr) (λS v W s=>∃j:Nat,j<=Z x.fr/\S=Z x.fr-j/\W=I J j/\zu w (h++x.r::x.fr.take j) v s)
   exact⟨0,aI _,rfl,rfl,H5⟩
   case round=>
    clear H5;obtain⟨j,_,_,rfl,i⟩:=hrel;have W:(h++x.r::x.fr.take j).length<=310:=oT;obtain⟨S,v⟩:∃S,S=h++x.r::x.fr.take j:=⟨_,rfl⟩;rw[<-v]at i W;obtain⟨_,_,rfl⟩:=aF i.row
    by_cases s:j<Z x.fr
    .have p:=aQ t i.k (λg e=>(t.lt g e).2);rw[ag V]at p;obtain⟨_,rfl,_,_,_,_⟩:=FC p j s;have Cl:(j:Int)<Z x.fr:=O;have L:=H (show h++x.r::x.fr.take (j+1)=S++[x.fr[j]] by rw[v,jr s];simp);generalize x.fr[j]=y at*;have m:=i.row.alloc (Vc #[I .u8 ((y:Int)%256)] 5);have l:=H (World.news_of_block (aG wr (Vc #[I .u8 ((y:Int)%256)] 5)));have d:=H i;have hwz:=i.k.size;clear i v p;go_wp2_with(at_builtin;refine ka _ rfl _ _ 47 rfl (F (X w)+1) 5 i0 _ 1 1 underlying47 hi M N Q rfl oD _ _ _ rfl m (C (F (X wr)) 0 G) 1 1 [iQ y] rfl rfl l (by intro u hu;rw[bu.1 hu];rfl) oM O oT ?_;intro v6 w6 e p B;clear B;obtain⟨_,_,rfl⟩:=aF e;have B:=H (d.add oA p e);clear e p);go_roundg(Z x.fr-(j+1))
     case measure=>omega
     case rel=>refine⟨j+1,O,rfl,oN,?_⟩;rw[ag L];exact B
    have l:j=Z x.fr:=O;subst l;have l:=H (show S=h++x.r::x.fr by rw[v,vd]);have d:=H i;clear i v;go_wp2;go_roundg(Z b-(c+1))
    case measure=>omega
    case rel=>
     refine⟨c+1,O,rfl,oN,?_,?_⟩
     .rw[ag E];exact T
     rw[ag E,<-ag l];exact d
  have g:c=Z b:=O
  subst g;have l:=H (show h=yF k (b.map gw) by rw[f,vd];unfold yF;simp);have d:=H i;clear i f o;go_wp2;go_ret;rw[<-ag l];exact⟨ao,co,rfl,aX d.row O,d.k⟩
open Go.Sort
def YZ{S:Nat->Nat}:∀{n i:Nat},i<n->S i<=jQ S n
 | 0,_,h=>by omega
 |n+1,i,h=>by
  rw[jQ];rcases Nat.lt_or_eq_of_le (Nat.le_of_lt_succ h)with h|rfl
  .exact bf (YZ h) (Nat.le_max_left _ _)
  exact Nat.le_max_right _ _
def YY{S:Nat->Nat}:∀(n:Nat),n=0\/∃i,i<n/\jQ S n=S i
 | 0=>.inl rfl
 |n+1=>by
  right
  rw[jQ];rcases Nat.le_total (jQ S n) (S n)with h|h
  .exact⟨n,O,Nat.max_eq_right h⟩
  rw[Nat.max_eq_left h];rcases YY (S:=S) n with a|⟨i,b,e⟩
  .refine⟨n,O,?_⟩;subst a;have:jQ S 0=0:=rfl;omega
  exact⟨i,O,e⟩
variable {c:B8}{a:P9}
def vT :(bE a c).isSome=Bt↔0<=aL a c:=by
 have h:=(CQ c a 0).1;unfold aL
 constructor
 .intro b;refine Int.not_lt.1 λk=>?_
  rw[h.1 k]at b
  cases b
 intro b
 cases k:bE a c with
 |none=>have:=h.2 k;omega
 |some n=>rfl
variable {b f:Nat}
def Uo{Sp S}(o:qp a)(l:∀k,0<=aL a k->Sp k=S (bH a k))(j:mH a Sp b)(g:a≠[]):b=jQ S (Z a)+1:=by
 have f:∀(i:Nat)(d:i<Z a),0<=aL a a[i].1/\bH a a[i].1=i:=λi d=>by
  have:=JA o i 0 d;unfold bH aL;rw[this]
  constructor
  .omega
  simp
 have p:jQ S (Z a)+1<=b:=by
  rcases YY (S:=S) (Z a)with h|⟨i,d,e⟩
  .exact absurd (zO.1 h) g
  obtain⟨c,m⟩:=f i d;have:=j.1 _ (vT.2 c);rw[l _ c,m]at this;omega
 have q:b<=jQ S (Z a)+1:=by
  rcases j.2 with h|⟨k,n,e⟩
  .omega
  have c:=vT.1 n;rw[l k c]at e;have:=(Fl k a 0 c).2;have m:bH a k<Z a:=by unfold bH aL at*;omega
  have:=YZ (S:=S) m;omega
 omega
variable {e:List aP}
def Ql{S l}(h:uq a S [] e b f l):l=[]:=by
 have:=(aa0 h).tk.mem
 cases l with
 |nil=>rfl
 |cons s r=>have:=(this s bz).1;simp[im]at this
variable {d:List PR}
def C9{i}(v:qu a i d)(x:qp a)(c:∀R∈i,0<=aL a R.ay.ax){Sp S}(s:∀k,0<=aL a k->Sp k=S (bH a k))(w:b<=50)(t:mH a Sp f){r j}(h:kH a S i b (jQ S (Z a)) 0 [] r)(l:qt d Sp b f 0 [] j):Mr a b r j:=by
 by_cases m:a=[]
 .subst m;have n:i=[]:=by
   cases i with
   |nil=>rfl
   |cons R q=>have:=c R bz;simp[aL,ij]at this
  subst n;have q:f=0:=by
   rcases t.2 with n|⟨k,u,_⟩
   .exact n
   cases u
  subst q;have u:j=P []:=by
   cases l with
   |lE _=>rfl
   |fails e _=>omega
   |next e _ _=>omega
  have e:r=P []:=by
   have n:jQ S 0=0:=rfl;rw[kB,n]at h
   cases h with
   |lE o=>omega
   |fails _ t=>
    cases t with
    |over g p=>rw[Ql g]at p;simp at p
    |jP g q _ _=>exact absurd (Ql g) q
   |next _ t q=>
    cases t with
    |done _ _=>
     cases q with
     |lE _=>rfl
     |fails o _=>omega
     |next o _ _=>omega
    |jP g q _ _=>exact absurd (Ql g) q
  exact .inr ⟨[],[],e,u,aai _,aI _⟩
 rw[Uo x s t m]at l;exact amQ v (λR e=>s _ (c R e)) w h [] j (aai _) (aI _) l
def agD{K}(c:ia a K e){A}(h:qR (pa A).p (pa A).ts)(b:jg a A.ax (Z A.aq)=Bt):((K.filter (rN (pa A))).map λp=>ep p.1).Perm (rO A e):=by
 have d:((K.filter (rN (pa A))).map λp=>ep p.1)=((K.map (·.1)).filter λt=>(dZ [] (pa A) t).isSome).map ep:=by rw[LQ,km];rfl
 have p:rO A e=((e.map λf=>bp f.aH).filter λt=>(dZ [] (pa A) t).isSome).map ep:=by
  unfold rO;rw[LQ,km];have:(e.filter λf=>(gY [] A f.aH).isSome)=e.filter ((λt=>(dZ [] (pa A) t).isSome) ∘ λf=>bp f.aH):=by
   refine List.filter_congr λf t=>?_
   simp only[LJ];rw[Jc B5 h (c.dI f t).w λl=>?_];have g:bE a f.aH.ax=P (bp f.aH).2.length:=(c.dI f t).bn;rw[vR,l,g]at b;simp only[bp,bF,qV]at b;exact b.symm
  rw[this];refine uh λf t=>?_
  exact c.text f (gI.1 t).1
 rw[d,p];exact(c.FF.filter _).map _
def amr{f d}(g:f.Perm d)(e:tA d):(xN f).map encStr=d.map Y:=by
 rw[aaA d]
 congr 1
 unfold xN;refine S5 (le:=λa b=>a<=b) (λa b _ _ h s=>List.le_antisymm h s) ?_ ?_ ((LY _ _).trans (g.map _))
 .have:=L0 (le:=λx y:List UInt8=>decide (x<=y)) (λa b c h s=>by
   rw[qW]at*
   exact List.le_trans h s) (λa b=>by
   rcases List.le_total a b with h|h<;>simp[h]) (f.map λs=>s.data.toList)
  exact this.imp λh=>by simpa using h
 unfold tA wX at e;rw[wO]at e⊢;refine e.imp λ{x y} h=>?_
 unfold fc at h;rw[Go.Proofs.bytesLess_eq,Mg]at h;rw[ByteArray.toList_eq,ByteArray.toList_eq]at h;exact List.not_lt.1 h
inductive Ea (w w' wr xU:W8):Ending->V9->Nat->Prop
 |yes {zs:List B8} {a:O8} {c:Nat} {v:V9}:Z zs<=50->Ow w' (F (X w)) 9 1 (U a (Z zs) c) (Z zs) (zs.map Y)->Ow xU (F (X wr)) 9 1 v (Z zs) (zs.map Y)->Ea w w' wr xU (Vr (Vt #[U a (Z zs) c,I J 0])) v 0
 |no {n:Nat}:n≠0->n<=8->Ea w w' wr xU (Vr (Vt #[U G 0 0,I J (n:Nat)])) (U G 0 0) n
def ZT{q}(h:(eK c).1=Bt)(T:d.map (·.R)=(dL c).2.2.1)(vD:∀r∈d,r.bs.map (·.1)=r.R.body){S}(hv:kQ (bh c).2 (bT c).1 S)(M:oe (bh c).2 (bT c).1 S){i w w' wr W e v}(hP:vj w d (bh c).2 q i w' e)(hQ:vk wr (bh c).2 S (bT c).1 q i W v b):Ea w w' wr W e v b:=by
 have g:=pL h;have E:=AJ h T vD;have r:∀R∈(bT c).1,0<=aL (bh c).2 R.ay.ax:=λR E=>g.all _ (gh.2 ⟨R,E,bz⟩)
 have f:∀{Sp:B8->Nat},ll (d.map (·.R)) Sp->og (d.map (·.R)) Sp->∀k,0<=aL (bh c).2 k->Sp k=S (bH (bh c).2 k):=λj R k V=>by
  rw[T,g.bB]at j R;exact F0 g.all hv M j R k V
 have V:=TM (bh c).2 q;have hl:∀{l:Int},my l=Bt->1<=l/\l<=50:=λh=>Fp h
 have N2:∀{l:Int},my l=Bf->¬(1<=l/\l<=50):=λh s=>by
  unfold my at h;simp at h;omega
 cases hP with
 |arg j=>
  have:=N2 j
  cases hQ with
  |arg _=>exact .no (n:=8) oD oD
  |ask a n _=>exact absurd ⟨a,n⟩ this
  |over a n _ _=>exact absurd ⟨a,n⟩ this
  |yes a n _ _ _ _ _ _=>exact absurd ⟨a,n⟩ this
 |ask j R=>
  have:=hl j;rw[V]at R
  cases hQ with
  |arg a=>omega
  |ask _ _ _=>exact .no (n:=6) oD oD
  |over _ _ s _=>rw[aD s]at R;cases R
  |yes _ _ s _ _ _ _ _=>rw[aD s]at R;cases R
 |over j R t o hc p=>
  have:=hl j;rw[V]at R
  cases hQ with
  |arg a=>omega
  |ask _ _ s=>rw[s]at R;cases R
  |over _ _ _ _=>exact .no (n:=7) oD oD
  |yes _ _ _ n _ _ _ _=>rcases C9 E g.xD r (f t o) O hc n p with⟨e,_⟩|⟨_,_,_,e,_⟩<;>cases e
 | @yes A Sp m K zs a s j R t o hc p vI B y=>
  have:=hl j;rw[V]at R
  cases hQ with
  |arg a=>omega
  |ask _ _ s=>rw[s]at R;cases R
  |over _ _ _ n=>rcases C9 E g.xD r (f t o) O hc n p with⟨_,e⟩|⟨_,_,e,_⟩<;>cases e
  | @yes v ys l _ _ z n L D Q k=>
   rcases C9 E g.xD r (f t o) O hc n p with⟨e,_⟩|⟨_,_,e1,e2,hS,_⟩
   .cases e
   obtain rfl:=cI e1;obtain rfl:=cI e2;rw[aD z]at R;obtain rfl:=cI R;have u:vt q=Bt/\jg (bh c).2 (az q 0).text (bA q 0 (-1)).1.length=true:=by unfold iZ at z;simpa using z
   have hw:qR (pa (aJ q)).p (pa (aJ q)).ts:=Zv (q:=q) (by rw[PK,aD u.1]);have N:=B.trans ((agD hS hw u.2).trans k.symm);have x:=N.length_eq;rw[amr N Q,x]at y;rw[x];refine .yes ?_ y D;rw[k.length_eq];unfold rO;rw[bF];exact bf (qU _ _) L
def U3(t:B8):∀(l:List aP)(i f:Nat),uA t l i=(f:Int)->∃(j:Nat)(h:j<Z l),f=i+j/\l[j].text=t
 | [],i,f,h=>by rw[uA]at h;omega
 |x::r,i,f,h=>by
  rw[uA]at h
  split at h
  .rename_i l;refine⟨0,oS,O,?_⟩;rw[kJ]at l;exact l
  obtain⟨j,a,e,l⟩:=U3 t r (i+1) f h;exact⟨j+1,by simpa using a,O,by simpa using l⟩
def U1{l t}{f:Nat}(h:dp l t=(f:Int)):∃h,l[f].text=t:=by
 obtain⟨j,a,_,b⟩:=U3 t l 0 f h;have:f=j:=O
 subst this;exact⟨a,b⟩
def jV(v h:Int)(wv:V9):V9:=Va #[I J v,I J h,wv]
inductive qe (w:W8)(ps:P9)(S:Nat->Nat)(rs:List bg)(s:B8)(limit:Int)(w':W8):V9->Nat->Prop
 |arg:limit<1\/50<limit->qe w ps S rs s limit w' (jV 0 0 (U G 0 0)) 8
 |ask:1<=limit->limit<=50->(iZ ps s&&lG (aJ s))=Bf->qe w ps S rs s limit w' (jV 0 0 (U G 0 0)) 6
 |over:1<=limit->limit<=50->(iZ ps s&&lG (aJ s))=Bt->kH ps S rs limit.toNat (jQ S (Z ps)) 0 [] G->qe w ps S rs s limit w' (jV 0 0 (U G 0 0)) 7
 |out {l:List aP} {k:Nat} {x:B8} {a:O8} {c:Nat}:1<=limit->limit<=50->(iZ ps s&&lG (aJ s))=Bt->kH ps S rs limit.toNat (jQ S (Z ps)) 0 [] (P l)->Z l<=50->x.data.toList=fR (aJ s)->dp l x<0->k=(if 0<=aL ps (aJ s).ax then S (aL ps (aJ s).ax).toNat+1 else 0)->Ow w' (F (X w)) 5 1 (U a (lU k l (λi=>decide (lS l i<k))).length c) (lU k l (λi=>decide (lS l i<k))).length ((lU k l (λi=>decide (lS l i<k))).map iQ)->qe w ps S rs s limit w' (jV 2 0 (U a (lU k l (λi=>decide (lS l i<k))).length c)) 0
 |yes {l:List aP} {f:Nat} {x:B8} {a:O8} {c:Nat}:1<=limit->limit<=50->(iZ ps s&&lG (aJ s))=Bt->kH ps S rs limit.toNat (jQ S (Z ps)) 0 [] (P l)->Z l<=50->x.data.toList=fR (aJ s)->dp l x=(f:Int)->f<Z l->Ow w' (F (X w)) 5 1 (U a (lU (lS l f) l (rS l (lS l f) (Z l) (ea (λ_=>Bf) f Bt))).length c) (lU (lS l f) l (rS l (lS l f) (Z l) (ea (λ_=>Bf) f Bt))).length ((lU (lS l f) l (rS l (lS l f) (Z l) (ea (λ_=>Bf) f Bt))).map iQ)->qe w ps S rs s limit w' (jV 1 (lH l f:Nat) (U a (lU (lS l f) l (rS l (lS l f) (Z l) (ea (λ_=>Bf) f Bt))).length c)) 0
def abI(w:W8)(ps:P9)(S:Nat->Nat)(rs:List bg)(s:B8)(limit:Int)(e:Ending)(w':W8):Prop:=
 ∃v n,e=Vr (Vt #[v,I J (n:Nat)])/\qe w ps S rs s limit w' v n/\Below (F (X w)) w w'
variable {b:List FG}{a:Nat}
def Yb(h:a<Z b):lS (b.map (·.F)) a=b[a].F.s:=by unfold lS;rw[gP,dr h];rfl
def ahC(h:a<Z b):lF (b.map (·.F)) a=b[a].F.fr:=by unfold lF;rw[gP,dr h];rfl
def kN.drew{w0 B wr}(h:kN w0 a B wr):kN w0 a B wr.drew:=⟨h.ai.drew,⟨h.row.sz,λi j=>h.row.cell i j,λj=>h.row.fz j⟩⟩
def afB(w0 w d g f m a)(hf:gV w0 d (U (P (C g 0 G)) (Z a) m) a)(kK:Z a<=50)(E:f<Z a)(k:∀j∈a,∀x∈j.F.fr,x<Z a)(B)(hI:kN w0 (Z a) B w){Q} (z:∀y u17 u18 V A i q o b r l s p v D c e n K L u t M N R S T u124 u125 u126 u127 u128 u129 u130 u131 u132 u133 u134 u135 u136 u137 u138 u139 u140 u141 u142 u143 u144 u145 u146 u147 u148 u149,kN w0 (Z a) (rS (a.map (·.F)) (lS (a.map (·.F)) f) (Z a) B) y->Q (.exit 2) ⟨List.toArray (c0::c1::c2::c3::c4::c5::c6::c7::c8::c9::ed::U (P (C g 0 G)) (Z a) m::U (P (C (F (X w0)) 0 G)) (Z a) (Z a)::I J f::eu::dv::dy::u17::u18::cJ::cF::bX::bY::bZ::b7::b8::cc::cd::cg::ck::cm::cy::cz::cC::cD::cE::cK::cL::cM::cQ::cR::cS::cT::cU::cV::cW::cX::cY::cZ::da::cN::cO::de::dh::cG::dz::dA::dB::dC::dD::dE::dF::dG::dH::dO::dP::dQ::dR::ei::ev::ew::ey::ez::eP::eQ::eR::eS::eT::eU::eV::eA::eB::dW::dX::dY::eC::eD::eE::eF::eG::eH::eI::eJ::eW::eX::eY::eZ::e8::e9::fa::V::A::i::q::o::b::r::l::s::p::v::D::c::e::n::K::L::u::t::M::N::R::S::T::u124::u125::u126::u127::u128::u129::u130::u131::u132::u133::u134::u135::u136::u137::u138::u139::u140::u141::u142::u143::u144::u145::u146::u147::u148::u149::ln::lp::lq::lr::lu::lx::ly::lz::lA::lB::mn::mo::mq::mr::[]),[]⟩ y):Code.wp prog (Code.loop (Nb 1)) Q ⟨List.toArray (c0::c1::c2::c3::c4::c5::c6::c7::c8::c9::ed::U (P (C g 0 G)) (Z a) m::U (P (C (F (X w0)) 0 G)) (Z a) (Z a)::I J f::eu::dv::dy::I J ((Z a:Int)-1)::dn::cJ::cF::bX::bY::bZ::b7::b8::cc::cd::cg::ck::cm::cy::cz::cC::cD::cE::cK::cL::cM::cQ::cR::cS::cT::cU::cV::cW::cX::cY::cZ::da::cN::cO::de::dh::cG::dz::dA::dB::dC::dD::dE::dF::dG::dH::dO::dP::dQ::dR::ei::ev::ew::ey::ez::eP::eQ::eR::eS::eT::eU::eV::eA::eB::dW::dX::dY::eC::eD::eE::eF::eG::eH::eI::eJ::eW::eX::eY::eZ::e8::e9::fa::fi::ee::dN::fo::fp::fq::ft::fu::fM::fN::fO::fP::fw::fx::fy::fC::fD::fE::fF::fG::fH::fj::fk::fl::fI::fJ::fK::fL::eO::dV::gJ::gK::gL::gM::gN::OT::ja::jb::jc::jd::je::iJ::ma::me::mf::mg::mh::mi::mj::mm::ln::lp::lq::lr::lu::lx::ly::lz::lA::lB::mn::mo::mq::mr::[]),[]⟩ w:=by
 conv=>arg 2;arg 1;whnf
 have N:=H hf;have HX:=H z;have x:=H hI;have zC:=H k;clear hf z hI k
 go_loopg [17] (Z a+1) (λt V wr=>∃(j:Nat)(z:Int)(k:Nat->Bool),j<=Z a/\t=j+1/\z=(j:Int)-1/\V=I J z/\kN w0 (Z a) k wr/\rS (a.map (·.F)) (lS (a.map (·.F)) f) j k=rS (a.map (·.F)) (lS (a.map (·.F)) f) (Z a) B)
 exact⟨Z a,_,B,bD _,rfl,rfl,rfl,x,rfl⟩
 case round=>
  clear x;obtain⟨j,z,k,hjl,Ci,t,rfl,V,x⟩:=hrel;have hsz:=V.ai.size
  cases j with
  |zero=>have A:z=-1:=O;subst A;have A:=H (show kN w0 (Z a) (rS (a.map (·.F)) (lS (a.map (·.F)) f) (Z a) B) wr from by rw[<-x];exact V);clear V x t;go_wp2_with fail;apply HX;exact A
  |succ i=>
   have q:z=i:=O;subst q;have q:i<Z a:=O;have o:=N.ai V.ai;obtain⟨g',cap,hv,-,qE,yY,Ab,R⟩:=qB o.row q;injection hv with b r S
   injection b with b
   injection b with b
   subst b S;have T:=R 6 O;simp only[FG.cells,aT,bx]at T;obtain⟨g'',aot,xw,-,-,-,-,l⟩:=qB o.row E;injection xw with b r S
   injection b with b
   injection b with b
   subst b;clear S;have S:=l 6 O;simp only[FG.cells,aT,bx]at S;have Ck:=(N.row.lt g rfl).2;have s:=V.row.cell i q;have hbf:=V.row.fz i;have vD:=V.row.sz;have p:(F (X w0))≠g:=O;have v:=H (λb:Bool=>V.set i b q);have D:=H (zC a[i] (aN q))
   have c:=H (λ(b:Bool)(hb:b=(k i||decide (a[i].F.s<a[f].F.s)))(W:W8)(h:kN w0 (Z a) (if ea k i b i=Bt then nP (ea k i b) a[i].F.fr else ea k i b) W)=>(show kN w0 (Z a) (CC (a.map (·.F)) (lS (a.map (·.F)) f) k i) W from by
    unfold CC;rw[Yb q,Yb E,ahC q,<-hb];have e:ea k i b i=b:=(by simp[ea]);rw[e]at h
    cases b with
    |true=>simpa using h
    |false=>simpa using h))
   have n:=H x;clear R l o V x t
   cases o:k i with
   |true=>
    rw[o]at s;have R:=H (c Bt (by rw[o];rfl));have l:=H (v Bt);clear c v o;go_wp2_with fail;refine wp_region_noPanic ?_;refine wp_region_held_drew (S:=λV=>V.cell? (C (F (X w0)) i G)=P (Vb Bt)) oK s (λhHeld=>?_);refine K9 0 (U (P (C (F (X w0)) 0 G)) (Z a) (Z a)) rfl oG hHeld ?_;refine K9 1 (I J (i:Nat)) rfl oG hHeld ?_;refine K9 2 (U (P (C (F (X w0)) 0 G)) (Z a) (Z a)) rfl oG hHeld ?_;refine K9 3 (I J (i:Nat)) rfl oG hHeld ?_;refine K9 4 (Vp (P (C (F (X w0)) i G))) rfl oG hHeld ?_;refine K9 5 (Vb Bt) rfl oG hHeld ?_;refine K9 6 (Vb Bt) rfl oG hHeld ?_;refine K9 7 undef rfl (Or.inr ⟨oK,rfl⟩) hHeld ?_;refine K9 8 undef rfl (Or.inr ⟨oK,rfl⟩) hHeld ?_;refine K9 9 undef rfl (Or.inr ⟨oK,rfl⟩) hHeld ?_;refine K9 10 undef rfl (Or.inr ⟨oK,rfl⟩) hHeld ?_;refine K9 11 undef rfl (Or.inr ⟨oK,rfl⟩) hHeld ?_;refine K9 12 undef rfl (Or.inr ⟨oK,rfl⟩) hHeld ?_;refine K9 13 undef rfl (Or.inr ⟨oK,rfl⟩) hHeld ?_;refine K9 14 undef rfl (Or.inr ⟨oK,rfl⟩) hHeld ?_;refine K9 15 undef rfl (Or.inr ⟨oK,rfl⟩) hHeld ?_;refine K9 16 undef rfl (Or.inr ⟨oK,rfl⟩) hHeld ?_;refine K9 17 undef rfl (Or.inr ⟨oK,rfl⟩) hHeld ?_;refine K9 18 (Vb Bt) rfl oG hHeld ?_;refine K9 19 (Vp (P (C (F (X w0)) i G))) rfl oG hHeld ?_;refine wpAnyH_ready (rs:=[20]) oK oS ?_;refine AllReadyH.cons rfl (λK x=>?_) AllReadyH.nil
    go_simp
    refine x.out _ _ (qz hHeld) (λ_=>?_);clear x K hHeld;refine wpAnyH_done oK ?_ _;refine NoPanic.normal ?_;go_wp2_with fail;refine UU w0 _ d g i m a N q D _ l.drew ?_;intro y;intros;rename_i r;have A:=H (R y r);clear r;go_wp2;go_roundg(i+1);exact⟨i,(i:Int)-1,_,O,rfl,rfl,oN,A,n⟩;omega
   |false=>
    rw[o]at s
    by_cases L:a[i].F.s<a[f].F.s
    all_goals
     first
     | (have R:=H (c Bt (by rw[o];simp[L]));have l:=H (v Bt);clear c v o;generalize a[i].F.s=u at*;generalize a[f].F.s=t at*;have M:(u:Int)<t:=O;go_wp2_with fail;refine wp_region_noPanic ?_;refine wp_region_held_drew (S:=λV=>V.cell? (C g (i*10+6) G)=P (I J (u:Nat))/\V.cell? (C g (f*10+6) G)=P (I J (t:Nat))) oK ⟨T,S⟩ (λhHeld=>?_);refine K9 0 (U (P (C (F (X w0)) 0 G)) (Z a) (Z a)) rfl oG hHeld ?_;refine K9 1 (I J (i:Nat)) rfl oG hHeld ?_;refine K9 2 (U (P (C (F (X w0)) 0 G)) (Z a) (Z a)) rfl oG hHeld ?_;refine K9 3 (I J (i:Nat)) rfl oG hHeld ?_;refine K9 4 (Vp (P (C (F (X w0)) i G))) rfl oG hHeld ?_;refine wpAnyH_ready (rs:=[5]) oK oS ?_;refine AllReadyH.cons rfl (λK x=>?_) AllReadyH.nil;go_simp;refine x.out _ _ hHeld (λ_=>?_);clear x K;refine K9 6 (Vb Bf) rfl oG hHeld ?_;refine K9 7 (U (P (C g 0 G)) (Z a) m) rfl oH hHeld ?_;refine K9 8 (I J (i:Nat)) rfl oH hHeld ?_;refine K9 9 (Vp (P (C g (i*10) G))) rfl oH hHeld ?_;refine K9 10 (Vp (P (C g (i*10+6) G))) rfl oH hHeld ?_;refine K9 11 (I J (u:Nat)) rfl (Or.inl ⟨oK,λV e=>by obtain⟨m6,m7⟩:=e;go_simp⟩) hHeld ?_;refine K9 12 (U (P (C g 0 G)) (Z a) m) rfl oH hHeld ?_;refine K9 13 (I J (f:Nat)) rfl oH hHeld ?_;refine K9 14 (Vp (P (C g (f*10) G))) rfl oH hHeld ?_;refine K9 15 (Vp (P (C g (f*10+6) G))) rfl oH hHeld ?_;refine K9 16 (I J (t:Nat)) rfl (Or.inl ⟨oK,λV e=>by obtain⟨m6,m7⟩:=e;go_simp⟩) hHeld ?_;refine K9 17 (Vb Bt) rfl oH hHeld ?_;refine K9 18 (Vb Bt) rfl oG hHeld ?_)
     | (have R:=H (c Bf (by rw[o];simp[L]));have l:=H (v Bf);clear c v o;generalize a[i].F.s=u at*;generalize a[f].F.s=t at*;have M:¬(u:Int)<t:=O;go_wp2_with fail;refine wp_region_noPanic ?_;refine wp_region_held_drew (S:=λV=>V.cell? (C g (i*10+6) G)=P (I J (u:Nat))/\V.cell? (C g (f*10+6) G)=P (I J (t:Nat))) oK ⟨T,S⟩ (λhHeld=>?_);refine K9 0 (U (P (C (F (X w0)) 0 G)) (Z a) (Z a)) rfl oG hHeld ?_;refine K9 1 (I J (i:Nat)) rfl oG hHeld ?_;refine K9 2 (U (P (C (F (X w0)) 0 G)) (Z a) (Z a)) rfl oG hHeld ?_;refine K9 3 (I J (i:Nat)) rfl oG hHeld ?_;refine K9 4 (Vp (P (C (F (X w0)) i G))) rfl oG hHeld ?_;refine wpAnyH_ready (rs:=[5]) oK oS ?_;refine AllReadyH.cons rfl (λK x=>?_) AllReadyH.nil;go_simp;refine x.out _ _ hHeld (λ_=>?_);clear x K;refine K9 6 (Vb Bf) rfl oG hHeld ?_;refine K9 7 (U (P (C g 0 G)) (Z a) m) rfl oH hHeld ?_;refine K9 8 (I J (i:Nat)) rfl oH hHeld ?_;refine K9 9 (Vp (P (C g (i*10) G))) rfl oH hHeld ?_;refine K9 10 (Vp (P (C g (i*10+6) G))) rfl oH hHeld ?_;refine K9 11 (I J (u:Nat)) rfl (Or.inl ⟨oK,λV e=>by obtain⟨m6,m7⟩:=e;go_simp⟩) hHeld ?_;refine K9 12 (U (P (C g 0 G)) (Z a) m) rfl oH hHeld ?_;refine K9 13 (I J (f:Nat)) rfl oH hHeld ?_;refine K9 14 (Vp (P (C g (f*10) G))) rfl oH hHeld ?_;refine K9 15 (Vp (P (C g (f*10+6) G))) rfl oH hHeld ?_;refine K9 16 (I J (t:Nat)) rfl (Or.inl ⟨oK,λV e=>by obtain⟨m6,m7⟩:=e;go_simp⟩) hHeld ?_;refine K9 17 (Vb Bf) rfl oH hHeld ?_;refine K9 18 (Vb Bf) rfl oG hHeld ?_)
     refine K9 19 (Vp (P (C (F (X w0)) i G))) rfl oG hHeld ?_;refine wpAnyH_ready (rs:=[20]) oK oS ?_;refine AllReadyH.cons rfl (λK x=>?_) AllReadyH.nil
     go_simp
     refine x.out _ _ ⟨(World.cell?_setCell_far wr (C (F (X w0)) i G) (C g (i*10+6) G) _ p).trans T,(World.cell?_setCell_far wr (C (F (X w0)) i G) (C g (f*10+6) G) _ p).trans S⟩ (λ_=>?_);clear x K hHeld;refine wpAnyH_done oK ?_ _;refine NoPanic.normal ?_;go_wp2_with fail;refine UU w0 _ d g i m a N q D _ l.drew ?_;intro y;intros;rename_i r;have A:=H (R y r);clear r;go_wp2;go_roundg(i+1);exact⟨i,(i:Int)-1,_,O,rfl,rfl,oN,A,n⟩;omega
def Et{w b a m c d}(h:Ow w b 5 1 (U a m c) m (d.map iQ))(f:m=Z d):(convert 47 9 (U a m c)).run prog w=.ok (Y (strOfNums (d.map λ(x:Nat)=>(x:Int)%256))) w:=by
 cases d with
 |nil=>
  subst f
  cases a with
  |none=>exact run_convert_bytes_nil _ 47 5 underlying47 underlying5 _ _ _ underlying9
  |some p=>
   obtain⟨g,_,_⟩:=p;rcases h.2 with⟨r,_⟩|⟨_,e,_,r,_⟩
   .cases r
   injection r with p l j
   injection p with p
   injection p with p i k
   subst p i k;exact run_convert_bytes_arg _ 47 5 underlying47 underlying5 _ 0 _ _ [] rfl (λi k=>by simp at k) _ underlying9
 |cons x r=>
  obtain⟨g,e,n,_,_⟩:=h.form (by rw[f];simp);injection n with p l j
  subst p j;refine run_convert_bytes_arg _ 47 5 underlying47 underlying5 _ 0 _ _ _ (by rw[bF];exact f.symm) (λi k=>?_) _ underlying9;have p:i<(x::r).length:=O
  have:=World.ownsRow.cellAt h i O;rw[lZ,this,S9,gP,gP,dr p];rfl
def acj(w:W8)(bs:List Nat)(a:aP->Prop)(N:Nat)(T:Option (List aP×List ec×Nat))(e:Ending)(w':W8):Prop:=
 Below (F (X w)) w w'/\((T=G/\e=Vr (Vt #[U G 0 0,U G 0 0,Vb Bf])) \/
  ∃(fs:List FG)(xs:List EV)(i:Nat)(a7 a8:O8)(c7 c8:Nat),T=P (fs.map (·.F),xs.map (·.e),i)/\e=Vr (Vt #[U a7 (Z fs) c7,U a8 (Z xs) c8,Vb (decide (i=Z bs))])/\gV w' (F (X w)) (U a7 (Z fs) c7) fs/\xW w' (F (X w)) (U a8 (Z xs) c8) xs/\(∀f∈fs,a f.F)/\(Z fs)=N/\(Z xs)=N)
def ajc(w o t s z y A v S a)(i:Mj w o t s z y A v S a)(g r c b)(f:ky w (P (C g r G)) c b)(N)(Q:2<=Z b)(q:Z b<=1000000000)(e:b[1]?=P N)(d:N<=50):Calls prog 191 #[Vp (P (C o 0 G)),U (P (C g r G)) (Z b) c] w (acj w b a N (gU (t.map (·.R)) (ov s S) b N 2 [] [])):=by
 have l:=H i;have k:=H f;have n:=H e;clear i f e;go_in;go_wp2_with fail;refine aj3 w o t s z y A v S a l g r c b k N Q q n d ?_ ?_
 .intro T V W M xs i w2;intros;rename_i D j x f h R e;subst D;obtain⟨D,K,rfl⟩:=aF j.bV.row;obtain⟨E,L,rfl⟩:=aF j.vz.row;have m:=H j;have B:=H x;have u:=H (And.intro f h);have p:=H e;clear j x f h e l k n;go_wp2
  go_ret3
  refine⟨m.ai,.inr ⟨M,xs,i,D,E,K,L,p,?_,m.bV,m.vz,B,u.1,u.2⟩⟩;simp;rw[oX];simp;omega
 intro T V W w2;intros;rename_i m e;have i:=H m;have p:=H e;clear m e l k n
 go_ret3
 exact⟨i,.inl ⟨p,rfl⟩⟩
def lR(S:Nat->Nat):Nat->Nat
 | 0=>0
 |n+1=>max (lR S n) (S n+1)
def YX(S:Nat->Nat):∀n,lR S (n+1)=jQ S (n+1)+1
 | 0=>by simp[lR,jQ]
 |n+1=>by
  rw[lR,jQ,YX S n];omega
variable {a:P9}{g:Nat}
def aeO{Sp S}(d:qp a)(e:∀k,0<=aL a k->Sp k=S (bH a k))(c:mH a Sp g):g=lR S (Z a):=by
 cases b:a with
 |nil=>
  subst b;rcases c.2 with p|⟨k,q,_⟩
  .exact p
  cases q
 |cons p q=>rw[Uo d e c (by rw[b];simp),b,ff,YX]
def A5(rs:List bg)(ps:P9)(S:Nat->Nat)(k:Nat)(l:List aP)(es:List ec):Prop:=∀(i:Nat)(f:aP)(E:ec)(R:bg),l[i]?=P f->es[i]?=P E->rs[f.r]?=P R->∀a∈R.body,a.no=Bt->S (bH ps a.ax)<k/\dp l (bI (bk E a))<0
def A0(rs:List bg)(ps:P9)(S:Nat->Nat)(k:Nat)(l:List aP):Prop:=∀R∈rs,S (bH ps R.ay.ax)<k->∀y∈lX R l,¬dp l (bI (bk y.1 R.ay))<0
def um(rs:List bg)(ps:P9)(S:Nat->Nat)(b:List Nat)(l:List aP):Prop:=
 ∃k n es,b[0]?=P k/\b[1]?=P n/\n<=50/\gU rs (ov ps S) b n 2 [] []=P (l,es,Z b)/\k<=lR S (Z ps)/\A5 rs ps S k l es/\A0 rs ps S k l
variable {b:List bg}
def Pp{a:aR->Nat->aP}{e:List Nat}{P:aP->Prop}(d:∀A r,P (a A r)):∀(n i:Nat)(l:List aP)(es:List ec)(A:List aP)(r:List ec)(c:Nat),(∀f∈l,P f)->gU b a e n i l es=some (A,r,c)->∀f∈A,P f
 | 0,i,l,es,A,r,c,hl,h=>by
  obtain⟨rfl,_⟩:l=A/\_:=by simpa[gU]using h
  exact hl
 |n+1,i,l,es,A,r,c,hl,h=>by
  rw[gU]at h
  split at h
  .cases h
  split at h
  .cases h
  split at h
  .cases h
  split at h
  .cases h
  split at h
  .refine Pp d n _ _ _ A r c (λf r=>?_) h;rcases aS.1 r with r|r
   .exact hl f r
   rw[bu.1 r];exact d _ _
  cases h
structure si(ps:P9)(rs:List bg)(rp:List PR)(l:List aP)(es:List ec)(st:List gR):Prop where
 rel:D0 ps rp l es st
 step:∀s∈st,BT ps rp s
 h0:∀f∈l,f.h=0
variable {d:List ec}{c:List PR}{f:List gR}
def si.Aa(h:si a b c e d f){A}(j:il a (bp A)):dp e (bI A)<0↔bp A∉f.map (·.t):=by
 rw[yL,<-h.rel.th,sU]
 constructor
 .intro k i;obtain⟨g,m,l⟩:=aU.1 i;exact k g m (by rw[h.rel.text g m,l])
 intro k g m l;rw[h.rel.text g m]at l;exact k (aU.2 ⟨g,m,zq (h.rel.dI g m).w j.w l⟩)
def si.same(h:si a b c e d f):ia a (f.map λs=>(s.t,0)) e:=by
 have i:=h.rel.nd;refine⟨λt n=>?_,by rw[km];exact i,by rw[h.rel.th];exact i,h.rel.dI,h.rel.text⟩
 constructor
 .intro k;obtain⟨s,m,l⟩:=aU.1 k;injection l with o g
  have:t∈e.map λj=>bp j.aH:=by rw[h.rel.th];exact aU.2 ⟨s,m,o⟩
  obtain⟨j,n,l⟩:=aU.1 this;exact⟨j,n,l,by rw[h.h0 j n];exact g⟩
 rintro⟨j,n,l,g⟩;have:t∈f.map (·.t):=by rw[<-h.rel.th];exact aU.2 ⟨j,n,l⟩
 obtain⟨s,m,o⟩:=aU.1 this;rw[h.h0 j n]at g;exact aU.2 ⟨s,m,by rw[o,g]⟩
def si.Uf(h:si a b c e d f)(u:qu a b c){S Sp}(E:∀k,0<=aL a k->Sp k=S (bH a k))(n:∀R∈b,0<=aL a R.ay.ax)(k):A0 b a S k e↔Dh Sp k c f:=by
 have i:(iE f).map (·.1)=(f.map λs=>(s.t,0)).map (·.1):=by rw[xK,km];rfl
 have p:∀{R:bg} {r:PR},nD R r->r∈c->R∈b->((S (bH a R.ay.ax)<k->∀y∈lX R e,¬dp e (bI (bk y.1 R.ay))<0)↔(Sp r.R.pd<k->∀B∈jn (iE f) (jj r.bs) (aY r.bs) [],bM B (cq r)∈f.map (·.t))):=λ{R r} t x q=>by
  have v:=u.dI r x;have x:r.R.pd=R.ay.ax:=gQ du.p t.hd;have D:Sp r.R.pd=S (bH a R.ay.ax):=by rw[x];exact E _ (n R q)
  have A:=C4 h.same t v;rw[D,akM i]
  constructor
  .intro g w B o;obtain⟨y,z,rfl⟩:=(A B).2 o;have j:=v.qb (K:=f.map λs=>(s.t,0)) h.same.ti (gI.1 o).1;have m:bp (bk y.1 R.ay)=bM y.1 (cq r):=(by rw[uS,t.hd]);have:=g w y z;rw[h.Aa (by rw[m];exact j.hd),m]at this;exact LF λl=>this l
  intro g w y z l;have o:=(A y.1).1 ⟨y,z,rfl⟩;have j:=v.qb (K:=f.map λs=>(s.t,0)) h.same.ti (gI.1 o).1;have m:bp (bk y.1 R.ay)=bM y.1 (cq r):=by rw[uS,t.hd]
  rw[h.Aa (by rw[m];exact j.hd),m]at l;exact l (g w _ o)
 constructor
 .intro g r t;obtain⟨R,q,hrel⟩:=u.TX r t;exact(p hrel t q).1 (g R q)
 intro g R q;obtain⟨r,t,hrel⟩:=u.jq R q;exact(p hrel t q).2 (g r t)
def si.Ii(h:si a b c e d f)(B:qu a b c)(y:yj b c){S Sp}(K:∀k,0<=aL a k->Sp k=S (bH a k))(k):A5 b a S k e d↔A4 Sp k f:=by
 have A:Z e=Z f:=by have:=gQ Z h.rel.th;simpa using this
 have n:∀(i:Nat)(p:i<Z f),∃R,d[i]?=P f[i].e/\e[i]?=P (e[i]'O)/\b[(e[i]'O).r]?=P R/\nD R f[i].r:=λi p=>by
  have j:i<Z e:=O
  have u:d[i]?=P f[i].e:=by rw[h.rel.en,gP,dr p];rfl
  have o:c[e[i].r]?=P f[i].r:=by have:=gQ (λL=>L[i]?) h.rel.ru;simp only[gP,dr j,dr p,ve,DS]at this;exact this
  obtain⟨q,g⟩:=qj.1 o;have s:e[i].r<Z b:=by rw[y.len];exact q
  refine⟨b[e[i].r],u,dr j,dr s,?_⟩;rw[<-g];exact y.aC _ s q
 have q:∀{R:bg} {s:gR},nD R s.r->s∈f->((∀g∈R.body,g.no=Bt->S (bH a g.ax)<k/\dp e (bI (bk s.e g))<0)↔∀g∈jj s.r.bs,bM s.e g∉f.map (·.t)/\Sp g.p<k):=λ{R s} l r=>by
  have z:=h.step s r;have r:∀g,g∈jj s.r.bs↔∃m∈R.body,m.no=Bt/\pa m=g:=λg=>by
   rw[l.neg];unfold Jp;rw[aU]
   constructor
   .rintro⟨m,E,l⟩;obtain⟨u,o⟩:=gI.1 E;exact⟨m,u,o,l⟩
   rintro⟨m,u,o,l⟩;exact⟨m,gI.2 ⟨u,o⟩,l⟩
  have L:∀m∈R.body,m.no=Bt->((dp e (bI (bk s.e m))<0↔bM s.e (pa m)∉f.map (·.t))/\Sp (pa m).p=S (bH a m.ax)):=λm E l=>by
   have w:pa m∈jj s.r.bs:=(r _).2 ⟨m,E,l,rfl⟩;have v:=z.qb.neg _ w;refine⟨?_,K _ (vT.1 ?_)⟩
   .rw[h.Aa (by rw[uS];exact v),uS]
   have t:=(B.dI s.r z.cH).neg _ w;have:=t.bn
   show(bE a (pa m).p).isSome=Bt
   rw[this];rfl
  constructor
  .intro u g D;obtain⟨m,E,l,rfl⟩:=(r g).1 D;obtain⟨v,w⟩:=L m E l;obtain⟨x,t⟩:=u m E l;exact⟨v.1 t,by rw[w];exact x⟩
  intro u m E l;obtain⟨v,w⟩:=L m E l;obtain⟨x,t⟩:=u _ ((r _).2 ⟨m,E,l,rfl⟩);rw[w]at t;exact⟨t,v.2 x⟩
 constructor
 .intro u s r;obtain⟨i,p,rfl⟩:=List.getElem_of_mem r;obtain⟨R,m,l,t,L⟩:=n i p;exact(q L r).1 (u i _ _ R l m t)
 intro u i r E R v w x;have j:=(qj.1 v).1;obtain⟨_,m,l,t,L⟩:=n i O;rw[m]at w;obtain rfl:=cI w;rw[l]at v;obtain rfl:=cI v;rw[t]at x;obtain rfl:=cI x;exact(q L (aN O)).2 (u _ (aN O))
def alf(j:qu a b c)(w:yj b c)(W:qp a){S Sp}(v:∀k,0<=aL a k->Sp k=S (bH a k))(o:∀R∈b,0<=aL a R.ay.ax)(T:mH a Sp g)(i):(∀l,um b a S i l->∃k R,i[0]?=some k/\vn c Sp g i k R/\l.map (λf=>bp f.aH)=R.map (·.t)/\si a b c l (R.map (·.e)) R)/\(∀k R,vn c Sp g i k R->∃l,um b a S i l):=by
 have M:∀A r,(ov a S A r).aH=A/\(ov a S A r).text=bI A/\(ov a S A r).r=r:=λA r=>⟨rfl,rfl,rfl⟩
 have L:D0 a c [] [] []:=⟨rfl,rfl,rfl,oS,oS,oS⟩;have hm:=aeO W v T
 constructor
 .rintro l ⟨k,n,h,s,p,N,e,V,z,q⟩
  match i,s,p with
  |r::m::rest,s,p=>
   obtain rfl:r=k:=by simpa using s
   obtain rfl:m=n:=by simpa using p
   obtain⟨x,R,t,A,d⟩:=(Pr j w M (r::m::rest) m 2 [] [] [] oS L).1 l h _ e rfl;have u:si a b c l h R:=⟨d,J2 j.dI x [] R oS A,Pp (P:=λf=>f.h=0) (λ_ _=>rfl) m 2 [] [] l h _ oS e⟩;refine⟨r,R,rfl,⟨x,?_,O,A,d.nd,(u.Ii j w v r).1 z,(u.Uf j v o r).1 q⟩,d.th,by rw[<-d.en];exact u⟩
   show rJ (iv c) (r::m::rest)=some (r,x)
   unfold rJ;simp only;rw[aB O];rw[show(r::m::rest).drop 2=rest from rfl]at t;rw[t];rfl
 rintro k R⟨x,s,V,m,e,z,q⟩
 match i,s with
 |r::n::rest,s=>
  unfold rJ at s;simp only at s
  split at s
  .cases s
  rename_i N;obtain⟨ns',t,A⟩:=DR.1 s;injection A with A d
  subst A d;have A:=Pr j w M (r::n::rest) n 2 [] [] [] oS L;have B:∃l h,gU b (ov a S) (r::n::rest) n 2 [] []=some (l,h,(r::n::rest).length):=by
   refine LF λD=>?_
   rcases A.2 (λl' y E p d=>D ⟨l',y,by rw[p,d]⟩)with p|⟨E,p,d⟩
   .rw[show(r::n::rest).drop 2=rest from rfl,t]at p
    cases p
   rw[show(r::n::rest).drop 2=rest from rfl,t]at p;obtain rfl:=cI p;rcases d with d|⟨K,d,Q⟩
   .rw[m]at d;cases d
   rw[m]at d;obtain rfl:=cI d;exact Q e
  obtain⟨l,h,d⟩:=B;obtain⟨E,K,B,p,y⟩:=A.1 l h _ d rfl;rw[show(r::n::rest).drop 2=rest from rfl,t]at B;obtain rfl:=cI B;rw[m]at p;obtain rfl:=cI p;have u:si a b c l h R:=⟨y,J2 j.dI _ [] R oS m,Pp (P:=λf=>f.h=0) (λ_ _=>rfl) n 2 [] [] l h _ oS d⟩;exact⟨l,r,n,h,rfl,rfl,O,d,O,(u.Ii j w v r).2 z,(u.Uf j v o r).2 q⟩
variable {eM eN rh ri rj rk rm rq rr ry rz rA rB rC rD rE rF ou:V9}
noncomputable def FU(k:Nat):Code:=((f132.body.map sM).getD []).getD k .skip
def Ph{S:Nat->Nat}{m:Nat}:∀(n:Nat),(∀i,i<n->S i+1<=m)->lR S n<=m
 | 0,_=>aI _
 |n+1,h=>Nat.max_le.2 ⟨Ph n (λi a=>h i O),h n O⟩
def al9(w o E a K D L z S)(b:kC w o E a K D L (U (P (C z 0 G)) (Z a) (Z a)))(c:jW w z (Z a) S)(A:∀i,i<Z a->S i<=1000000){Q} (j:∀B M d u32 e f g h k l m n p q r s t u v x y,B=w->Q (.exit 0) ⟨List.toArray (Vp (P (C o 0 G))::c1::c2::c3::c4::c5::I J (lR S (Z a))::M::c8::c9::ed::eM::eN::et::eu::dv::dy::eh::dn::cJ::cF::bX::bY::bZ::b7::b8::cc::cd::cg::ck::cm::d::u32::e::f::g::h::k::l::m::n::p::q::r::s::t::u::v::x::y::cN::cO::de::dh::cG::dz::dA::dB::dC::dD::dE::dF::dG::dH::dO::dP::dQ::dR::ei::ev::ew::ey::ez::eP::eQ::eR::eS::eT::eU::eV::eA::eB::dW::dX::dY::eC::eD::eE::eF::eG::eH::eI::eJ::eW::eX::eY::eZ::e8::e9::fa::fi::ee::dN::fo::fp::fq::ft::fu::fM::fN::fO::fP::fw::fx::fy::fC::fD::fE::fF::fG::fH::fj::fk::fl::fI::fJ::fK::fL::eO::dV::gJ::gK::gL::gM::gN::OT::ja::jb::jc::jd::je::iJ::ma::me::mf::mg::mh::mi::mj::mm::ln::lp::lq::lr::lu::lx::ly::lz::lA::lB::mn::mo::mq::mr::rh::ri::rj::rk::rm::rq::rr::ry::rz::rA::rB::rC::rD::rE::rF::ou::[]),[]⟩ B):Code.wp prog (Code.loop (FU 0)) Q ⟨List.toArray (Vp (P (C o 0 G))::c1::c2::c3::c4::c5::I J 0::I J 0::c8::c9::ed::eM::eN::et::eu::dv::dy::eh::dn::cJ::cF::bX::bY::bZ::b7::b8::cc::cd::cg::ck::cm::cy::cz::cC::cD::cE::cK::cL::cM::cQ::cR::cS::cT::cU::cV::cW::cX::cY::cZ::da::cN::cO::de::dh::cG::dz::dA::dB::dC::dD::dE::dF::dG::dH::dO::dP::dQ::dR::ei::ev::ew::ey::ez::eP::eQ::eR::eS::eT::eU::eV::eA::eB::dW::dX::dY::eC::eD::eE::eF::eG::eH::eI::eJ::eW::eX::eY::eZ::e8::e9::fa::fi::ee::dN::fo::fp::fq::ft::fu::fM::fN::fO::fP::fw::fx::fy::fC::fD::fE::fF::fG::fH::fj::fk::fl::fI::fJ::fK::fL::eO::dV::gJ::gK::gL::gM::gN::OT::ja::jb::jc::jd::je::iJ::ma::me::mf::mg::mh::mi::mj::mm::ln::lp::lq::lr::lu::lx::ly::lz::lA::lB::mn::mo::mq::mr::rh::ri::rj::rk::rm::rq::rr::ry::rz::rA::rB::rC::rD::rE::rF::ou::[]),[]⟩ w:=by
 conv=>arg 2;arg 1;whnf
 have d:=ej b.oE;unfold maxLen at d;have c3:=b.c3;have l:=b.lt;have h:=c.sz;have f:=H c;have g:=H j;have e:=H A;clear b c j A
 go_loopg [6,7] (Z a) (λA c j wr=>∃(i:Nat),j=I J i/\i<=Z a/\A=Z a-i/\c=I J (lR S i)/\wr=w)
 exact⟨0,rfl,O,O,rfl,rfl⟩
 case round=>
  obtain⟨i,rfl,_,_,rfl,b⟩:=hrel;subst b
  by_cases b:i<Z a
  .have c:(i:Int)<Z a:=O;have A:=f.cell i b;have k:=Ph (S:=S) (m:=1000001) i (λj m=>by have:=ag e j O;omega);have j:=ag e i b;go_wp2;go_roundg(Z a-(i+1));exact⟨i+1,oN,O,rfl,by rw[lR];go_num,rfl⟩;omega
  have c:¬((i:Int)<Z a):=O
  have j:i=Z a:=O
  subst j;go_wp2_with fail;apply g;rfl
def wW(ps:P9)(S:Nat->Nat)(k:Nat)(l:List aP)(E:ec)(a:aR):Prop:=S (bH ps a.ax)<k/\dp l (bI (bk E a))<0
def afu{w b v c}(h:Ow w b 258 2 v (Z c) (c.flatMap EV.cells)){k}(m:k<Z c):∃g a,v=U (P (C g 0 G)) (Z c) a/\b<=g/\g<F (X w)/\(Z c)<=a/\a<=maxLen/\Ce w (C g (k*2) G)=P c[k].nv/\Ce w (C g (k*2+1) G)=P c[k].tv:=by obtain⟨g,a,e,f,i,j,l,d⟩:=gu (f:=EV.cells) (n:=2) (λ_=>rfl) h k m;exact⟨g,a,e,f,i,j,l,d 0 O,d 1 O⟩
def alb(w o rs f rv pv tv gs S)(hP:kC w o rs f rv pv tv (U (P (C gs 0 G)) (Z f) (Z f)))(hT:jW w gs (Z f) S)(K m a9 c9)(hF:gV w 0 (U a9 (Z m) c9) m)(d zW ed)(hE:xW w 0 (U zW (Z d) ed) d)(i)(hi:i<Z d)(l) (R) (ah ab) (ch cb) (k) (hR:lN w 0 R (U ah (Z R.ay.aq) ch) k (U ab (Z k) cb)) (j:w.heap[l]?=P (Vc #[Y R.ay.ax,U ah (Z R.ay.aq) ch,Vb R.ay.no,I J R.ay.aC,I J R.ay.aO,U ab (Z k) cb] 246)) (h3:Z k<=3) (h4:∀a∈R.body,Z a.aq<=4) (hsz:∀a∈R.body,a.no=Bt->(fR (bk d[i].e a)).length<=1000000000/\0<=aL f a.ax){Q} (M:∀w2 u14 u15 u85 u86 u87 u88 u89 u90 u91 u92 u93 u94 u95 u96 u97 u98 u99 q e g t T A b y h N v E W z c p n r D L x B V u s u125 u126 u127,Below (F (X w)) w w2->(∀a∈R.body,a.no=Bt->wW f S K (m.map (·.F)) d[i].e a)->Q (.exit 4) ⟨List.toArray (Vp (P (C o 0 G))::c1::c2::c3::U G 0 0::Vb Bf::c6::c7::I J K::U a9 (Z m) c9::U zW (Z d) ed::eM::I J i::Vp (P (C l 0 G))::u14::u15::dy::eh::dn::cJ::cF::bX::bY::bZ::b7::b8::cc::cd::cg::ck::cm::cy::cz::cC::cD::cE::cK::cL::cM::cQ::cR::cS::cT::cU::cV::cW::cX::cY::cZ::da::cN::cO::de::dh::cG::dz::dA::dB::dC::dD::dE::dF::dG::dH::dO::dP::dQ::dR::ei::ev::ew::ey::ez::eP::eQ::eR::eS::eT::eU::eV::eA::eB::dW::dX::dY::u85::u86::u87::u88::u89::u90::u91::u92::u93::u94::u95::u96::u97::u98::u99::q::e::g::t::T::A::b::y::h::N::v::E::W::z::c::p::n::r::D::L::x::B::V::u::s::u125::u126::u127::eO::dV::gJ::gK::gL::gM::gN::OT::ja::jb::jc::jd::je::iJ::ma::me::mf::mg::mh::mi::mj::mm::ln::lp::lq::lr::lu::lx::ly::lz::lA::lB::mn::mo::mq::mr::rh::ri::rj::rk::rm::rq::rr::ry::rz::rA::rB::rC::rD::rE::rF::ou::[]),[]⟩ w2)(uF:∀w2 u14 u15 u85 u86 u87 u88 u89 u90 u91 u92 u93 u94 u95 u96 u97 u98 u99 q e g t T A b y h N v E W z c p n r D L x B V u s u125 u126 u127,Below (F (X w)) w w2->(∃a∈R.body,a.no=Bt/\¬wW f S K (m.map (·.F)) d[i].e a)->Q .ret ⟨List.toArray (Vp (P (C o 0 G))::c1::c2::c3::U G 0 0::Vb Bf::c6::c7::I J K::U a9 (Z m) c9::U zW (Z d) ed::eM::I J i::Vp (P (C l 0 G))::u14::u15::dy::eh::dn::cJ::cF::bX::bY::bZ::b7::b8::cc::cd::cg::ck::cm::cy::cz::cC::cD::cE::cK::cL::cM::cQ::cR::cS::cT::cU::cV::cW::cX::cY::cZ::da::cN::cO::de::dh::cG::dz::dA::dB::dC::dD::dE::dF::dG::dH::dO::dP::dQ::dR::ei::ev::ew::ey::ez::eP::eQ::eR::eS::eT::eU::eV::eA::eB::dW::dX::dY::u85::u86::u87::u88::u89::u90::u91::u92::u93::u94::u95::u96::u97::u98::u99::q::e::g::t::T::A::b::y::h::N::v::E::W::z::c::p::n::r::D::L::x::B::V::u::s::u125::u126::u127::eO::dV::gJ::gK::gL::gM::gN::OT::ja::jb::jc::jd::je::iJ::ma::me::mf::mg::mh::mi::mj::mm::ln::lp::lq::lr::lu::lx::ly::lz::lA::lB::mn::mo::mq::mr::rh::ri::rj::rk::rm::rq::rr::ry::rz::rA::rB::rC::rD::rE::rF::ou::[]),[]⟩ w2):Code.wp prog (Code.loop (FU 2)) Q ⟨List.toArray (Vp (P (C o 0 G))::c1::c2::c3::U G 0 0::Vb Bf::c6::c7::I J K::U a9 (Z m) c9::U zW (Z d) ed::eM::I J i::Vp (P (C l 0 G))::I J (0:Nat)::dv::dy::eh::dn::cJ::cF::bX::bY::bZ::b7::b8::cc::cd::cg::ck::cm::cy::cz::cC::cD::cE::cK::cL::cM::cQ::cR::cS::cT::cU::cV::cW::cX::cY::cZ::da::cN::cO::de::dh::cG::dz::dA::dB::dC::dD::dE::dF::dG::dH::dO::dP::dQ::dR::ei::ev::ew::ey::ez::eP::eQ::eR::eS::eT::eU::eV::eA::eB::dW::dX::dY::eC::eD::eE::eF::eG::eH::eI::eJ::eW::eX::eY::eZ::e8::e9::fa::fi::ee::dN::fo::fp::fq::ft::fu::fM::fN::fO::fP::fw::fx::fy::fC::fD::fE::fF::fG::fH::fj::fk::fl::fI::fJ::fK::fL::eO::dV::gJ::gK::gL::gM::gN::OT::ja::jb::jc::jd::je::iJ::ma::me::mf::mg::mh::mi::mj::mm::ln::lp::lq::lr::lu::lx::ly::lz::lA::lB::mn::mo::mq::mr::rh::ri::rj::rk::rm::rq::rr::ry::rz::rA::rB::rC::rD::rE::rF::ou::[]),[]⟩ w:=by
 conv=>arg 2;arg 1;whnf
 have aoF:=ej hR.bo;have HP:=H hP;have HT:=H hT;have HF:=H hF;have HE:=H hE;have HR:=H hR;have yd:=H j;have Bb:=H h4;have lL:=H hsz;have HX:=H M;have HY:=H uF;have Iz:=(aM.1 j).1;have q:=hR.eq;have uc:=H q;have hxm:=ej hE.row;unfold maxLen at hxm;clear hP hT hF hE hR j h4 hsz M uF q
 go_loopg [4,5,14] (Z k) (λq j h M wr=>j=U G 0 0/\h=Vb Bf/\∃(j:Nat),M=I J j/\j<=Z k/\q=Z k-j/\Below (F (X w)) w wr/\∀a∈R.body.take j,a.no=Bt->wW f S K (m.map (·.F)) d[i].e a)
 exact⟨rfl,rfl,0,rfl,O,O,aZ _ _,oS⟩
 case round=>
  obtain⟨rfl,rfl,j,rfl,_,_,hB,M⟩:=hrel;have q:=H M;have HB:=H hB;have ox:=(hB.block _ Iz).trans yd;obtain⟨x5,-⟩:=aj ox 5;simp only[bt,aT,bx]at x5;have EF:l<F (X wr):=by have:=hB.size;omega
  by_cases yW:j<Z k
  .have Cl:(j:Int)<Z k:=O;have WH:j<Z R.body:=(by rw[ag uc,bF];exact yW);have h:R.body[j]=k[j].1:=(by simp only[ag uc,nB]);have N:=aQ HR.bo hB (λg e=>(HR.bo.lt g e).2);obtain⟨t,_,zb,-,T,_,_,y0,y1,y2,y3,y4⟩:=qx N j yW;injection zb with v i2 r
   subst v r;have y:k[j].1∈R.body:=(by rw[<-h];exact aN WH);have b:=HR.bl _ (aN yW);obtain⟨aa,ca,n⟩:=aF b;rw[n]at y1;rw[n]at b;have Dy:=H (show R.body.take (j+1)=R.body.take j++[k[j].1] by rw[jr WH,h]);have KA:=H y;have RL:=H b;have hA4:=ag Bb _ y;generalize D:k[j].1=A at*;clear N M ox h y b n D
   cases b:A.no with
   |false=>
    rw[b]at y2;have uW:=H b;clear b;go_wp2;go_roundg(Z k-(j+1))
    case measure=>omega
    case rel=>
     refine⟨rfl,rfl,j+1,oN,O,rfl,HB,λa y=>?_⟩;rw[ag Dy]at y;rcases aS.1 y with y|y
     .exact q a y
     rw[bu.1 y];intro h;rw[ag uW]at h;cases h
   |true=>
    rw[b]at y2;obtain⟨hlen,N⟩:=lL A KA b;have uW:=H b;have n:=HE.ai hB;obtain⟨ge,_,hve,-,hle,_,_,w0,w1⟩:=afu n.row hi;injection hve with v i2 r
    subst v r;have v:=n.aK _ (aN hi);obtain⟨an,cn,aC,ct,r,D⟩:=v.shape;rw[r]at w0;rw[D]at w1;rw[r,D]at v;have E:∀W,Below (F (X wr)) wr W->Calls prog 192 #[Va #[U an d[i].e.length cn,U aC d[i].e.length ct],Va #[Y A.ax,U aa (Z A.aq) ca,Vb Bt,I J A.aC,I J A.aO]] W (D4 W d[i].e A):=λW hW=>by
     have c:=v.ai hW;have z:=hB.trans (hW.mono hB.size);have:=FV W 0 d[i].e A an aC aa cn ct ca c (aQ RL z (λg e=>(RL.lt g e).2)) O;rw[b]at this;exact this
    have z:=H E;have tK:(i:Int)<Z d:=O
    have HK:Hid (∀W c:W8,Below (F (X wr)) wr W->Below (F (X W)) W c->Ce c (C ge (i*2) G)=P (U an d[i].e.length cn)/\Ce c (C ge (i*2+1) G)=P (U aC d[i].e.length ct)/\Ce c (C l 5 G)=P (U (P (C t 0 G)) (Z k) cb)/\Ce c (C t (j*5) G)=P (Y A.ax)/\Ce c (C t (j*5+1) G)=P (U aa (Z A.aq) ca)/\Ce c (C t (j*5+2) G)=P (Vb Bt)/\Ce c (C t (j*5+3) G)=P (I J A.aC)/\Ce c (C t (j*5+4) G)=P (I J A.aO)):=H (λW c L x=>by
     have p:=L.trans (x.mono L.size)
     exact⟨(p.cell (oU hle)).trans w0,(p.cell (oU hle)).trans w1,(p.cell (oU EF)).trans x5,(p.cell (oU T)).trans y0,(p.cell (oU T)).trans y1,(p.cell (oU T)).trans y2,(p.cell (oU T)).trans y3,(p.cell (oU T)).trans y4⟩)
    have d5:¬ge=F (X wr):=O;have db:¬l=F (X wr):=O;have dg:¬t=F (X wr):=O;clear n v E r D b hB;go_upto_region 20 with fail
    go_cut [15] from 85 to 127 (λp wc=>∃b v,p=Vp (P (C b 0 G))/\M5 wr (bk d[i].e A) b v wc)
    case first=>
     generalize p:d[i].e=E at*
     go_region_held3 (λc=>Ce c (C ge (i*2) G)=P (U an (Z E) cn)/\Ce c (C ge (i*2+1) G)=P (U aC (Z E) ct)/\Ce c (C l 5 G)=P (U (P (C t 0 G)) (Z k) cb)/\Ce c (C t (j*5) G)=P (Y A.ax)/\Ce c (C t (j*5+1) G)=P (U aa (Z A.aq) ca)/\Ce c (C t (j*5+2) G)=P (Vb Bt)/\Ce c (C t (j*5+3) G)=P (I J A.aC)/\Ce c (C t (j*5+4) G)=P (I J A.aO)) (first|go_keep|(refine⟨?_,?_,?_,?_,?_,?_,?_,?_⟩<;>(refine(JV ?_).trans ?_<;>assumption))) ((go_at_call 192;refine(z _ oB).mono ?_;rintro e w2⟨v,rfl,r,n⟩;obtain⟨D,L,rfl⟩:=aF r;obtain⟨m0,m1,m2,m3,m4,m5,m6,_⟩:=ag HK _ _ oB n;have B:=λ(j:Nat) h=>n.cell (p:=(C (F (X wr)) j G)) h;have V:=λ(j:Nat) h=>n.frozen (p:=(C (F (X wr)) j G)) h;have x:=H r;clear r))
     all_goals
      go_wp2;go_meet
      case rel=>first|exact⟨_,_,rfl,M5.qw (W:=wr.drew) B9.drew n x⟩|exact⟨_,_,rfl,M5.ahead (W:=(Al wr (Vc #[Y ⟨#[]⟩,U G 0 0,Vb Bf,I J 0,I J 0] 243)).drew) oA.drew L9 (aG wr _) n x⟩
    case rest=>
     generalize wc=r at*;obtain⟨b,v,rfl,hM⟩:=hcut;obtain⟨D,L,rfl⟩:=aF hM.row;have x:=HB.trans (hM.ai.mono HB.size);have B:=HP.kept ((ak.refl [] _).bC x) oS;have V:=HT.kept ((ak.refl [] _).bC x);have NW:=mS N;obtain⟨E,xq⟩:∃E:Nat,aL f A.ax=(E:Int):=⟨_,(DK N).symm⟩;have vF:E<Z f:=O;have Ww:bH f A.ax=E:=(by unfold bH;rw[xq];rfl);have st1:=V.cell E vF;have Cj:=V.sz;have c3:=B.c3;have IT:=B.lt;have WN:=ej B.oE
     have Bi:=H (λ(W:W8)(hW:Below (F (X r)) r W)=>(show Calls prog 135 #[Vp (P (C o 0 G)),Y A.ax] W λe c=>e=Vr (I J (E:Nat))/\c=W from by
      have:=sP W o rs f _ _ _ _ A.ax (B.kept ((ak.refl [] _).bC hW) oS);rw[xq]at this
      exact this))
     have u:=hM.row;have p:=H (λ(W:W8)(hW:Below (F (X r)) r W)=>(show Calls prog 134 #[Va #[Y A.ax,U D (bk d[i].e A).aq.length L,Vb Bf,I J 0,I J 0]] W λe c=>∃s:B8,e=Vr (Y s)/\s.data.toList=fR (bk d[i].e A)/\Below (F (X W)) W c from uP W (F (X wr)) (bk d[i].e A) D L Bf 0 0 (aQ u hW (λg e=>(u.lt g e).2)) hlen));have sE:=HF.row;have s:=H (λ(W:W8)(hW:Below (F (X r)) r W)=>yK W 0 a9 c9 m (bI (bk d[i].e A)) (aQ sE (x.trans (hW.mono x.size)) (λg e=>(sE.lt g e).2)));have W:=(aM.1 hM.blk).1;obtain⟨r0,-⟩:=aj hM.blk 0;obtain⟨r1,-⟩:=aj hM.blk 1;obtain⟨r2,-⟩:=aj hM.blk 2;obtain⟨r3,-⟩:=aj hM.blk 3;obtain⟨r4,-⟩:=aj hM.blk 4;simp only[bt,aT,bx]at r0 r1 r2 r3 r4;have g:=H (show wW f S K (m.map (·.F)) d[i].e A↔S E<K/\dp (m.map (·.F)) (bI (bk d[i].e A))<0 by unfold wW;rw[Ww]);have sk:=H x;have EK:(E:Int)<Z f:=O;have EJ:(0:Int)<=E:=O;replace r0:Ce r (C b 0 G)=P (Y A.ax):=r0;clear hM x B V NW xq Ww N u sE z HK hlen d5 db dg w0 w1 x5 y0 y1 y2 y3 y4;generalize bk d[i].e A=B at*;generalize N:dp (m.map (·.F)) (bI B)=FX at*;clear N;have z:Hid (∀c:W8,Below (F (X r)) r c->Ce c (C o 3 G)=P (U (P (C gs 0 G)) (Z f) (Z f))/\Ce c (C gs E G)=P (I J (S E))/\Ce c (C b 0 G)=P (Y A.ax)/\Ce c (C b 1 G)=P (U D (Z B.aq) L)/\Ce c (C b 2 G)=P (Vb Bf)/\Ce c (C b 3 G)=P (I J 0)/\Ce c (C b 4 G)=P (I J 0)):=H (λc h=>⟨(h.cell (oU IT)).trans c3,(h.cell (oU Cj)).trans st1,(h.cell (oU W)).trans r0,(h.cell (oU W)).trans r1,(h.cell (oU W)).trans r2,(h.cell (oU W)).trans r3,(h.cell (oU W)).trans r4⟩)
     go_upto_region 21 with fail
     by_cases V:S E<K
     .have rL:decide (K<=S E)=false:=oT;have ED:decide ((K:Int)<=(S E:Int))=false:=oT
      go_cut [127] from 85 to 127 (λu wc=>u=Vb (decide ((0:Int)<=FX))/\Below (F (X r)) r wc)
      case first=>
       go_region_held3 (λc=>Ce c (C o 3 G)=P (U (P (C gs 0 G)) (Z f) (Z f))/\Ce c (C gs E G)=P (I J (S E))/\Ce c (C b 0 G)=P (Y A.ax)/\Ce c (C b 1 G)=P (U D (Z B.aq) L)/\Ce c (C b 2 G)=P (Vb Bf)/\Ce c (C b 3 G)=P (I J 0)/\Ce c (C b 4 G)=P (I J 0)) (first|exact z _ u|exact z _ B9.drew|go_keep) ((first|(go_at_call 135;refine(Bi _ (by exact B9.drew)).mono ?_;rintro e w3⟨rfl,c⟩;have c:=c.symm;subst c)|(go_at_call 134;refine(p _ (by exact B9.drew)).mono ?_;rintro e w2⟨_,rfl,x,n⟩;obtain rfl:=AQ x;have u:=jB n;obtain⟨m0,m1,m2,m3,m4,m5,m6⟩:=ag z _ u;clear x)|(go_at_call 133;refine(s _ u).mono ?_;rintro e w3⟨rfl,c⟩;have c:=c.symm;subst c)))
       all_goals
        go_wp2;go_meet
        case rel=>exact⟨by first|rfl|simp,u⟩
      case rest=>
       generalize wc=wE at*;obtain⟨rfl,c⟩:=hcut;have u:=H (sk.trans (c.mono sk.size));clear c z Bi p s r0 r1 r2 r3 r4 c3 st1
       by_cases N:(0:Int)<=FX
       .have hd:decide ((0:Int)<=FX)=true:=(by simp;exact N);rw[hd];have c:=H (show ∃a∈R.body,a.no=Bt/\¬wW f S K (m.map (·.F)) d[i].e a from ⟨A,KA,uW,λh=>by have:=(g.1 h).2;omega⟩);go_wp2_with fail;apply HY
        .exact u
        exact c
       have hd:decide ((0:Int)<=FX)=false:=oT;rw[hd];have x:=H (show wW f S K (m.map (·.F)) d[i].e A from(g).2 ⟨V,O⟩);go_wp2;go_roundg(Z k-(j+1))
       case measure=>omega
       case rel=>
        refine⟨rfl,rfl,j+1,oN,O,rfl,u,λa y=>?_⟩;rw[ag Dy]at y;rcases aS.1 y with y|y
        .exact q a y
        rw[bu.1 y];exact λ_=>x
     have rL:decide (K<=S E)=true:=oT;have ED:decide ((K:Int)<=(S E:Int))=true:=oT;have c:=H (show ∃a∈R.body,a.no=Bt/\¬wW f S K (m.map (·.F)) d[i].e a from ⟨A,KA,uW,λh=>V (g.1 h).1⟩);clear z p s;go_quiet((go_at_call 135;exact Calls.quiet_of_same (Bi _ (below_drewN B9 _))));go_wp2_with fail;apply HY
     .first|exact below_drewN sk _|exact sk
     exact c
  have Cl:¬((j:Int)<Z k):=O
  have b:R.body.take j=R.body:=j7 (by rw[ag uc,bF];omega);rw[b]at q;clear M hB ox b;go_wp2_with fail;apply HX
  .exact HB
  exact q
def ald(w d a9 c9)(u:gV w 0 (U a9 (Z d) c9) d)(c)(R:bg)(S T bv)(M:Ow w 0 317 3 (U S (Z R.ay.aq) T) (Z R.ay.aq) (cellsOf R.ay.aq))(k:w.heap[c]?=P (Vc #[Y R.ay.ax,U S (Z R.ay.aq) T,Vb R.ay.no,I J R.ay.aC,I J R.ay.aO,bv] 246))(h4:Z R.ay.aq<=4)(a aw cw)(N:oq w 0 (U aw (Z a) cw) a)(oy:Z a<=1000000)(K:∀x∈a,(fR (bk x.e R.ay)).length<=1000000000){Q} (l:∀D A L f m p s E b v W e g i B y h j n o q r,Below (F (X w)) w D->(∀x∈a,¬dp (d.map (·.F)) (bI (bk x.e R.ay))<0)->Q (.exit 8) ⟨List.toArray (c0::c1::c2::c3::U G 0 0::Vb Bf::c6::c7::c8::U a9 (Z d) c9::ed::eM::eN::et::eu::dv::dy::Vp (P (C c 0 G))::U aw (Z a) cw::A::L::bX::bY::bZ::b7::b8::cc::cd::cg::ck::cm::cy::cz::cC::cD::cE::cK::cL::cM::cQ::cR::cS::cT::cU::cV::cW::cX::cY::cZ::da::cN::cO::de::dh::cG::dz::dA::dB::dC::dD::dE::dF::dG::dH::dO::dP::dQ::dR::ei::ev::ew::ey::ez::eP::eQ::eR::eS::eT::eU::eV::eA::eB::dW::dX::dY::eC::eD::eE::eF::eG::eH::eI::eJ::eW::eX::eY::eZ::e8::e9::fa::fi::ee::dN::fo::fp::fq::ft::fu::fM::fN::fO::fP::fw::fx::fy::fC::fD::fE::fF::fG::fH::fj::fk::fl::fI::fJ::fK::fL::eO::dV::gJ::gK::gL::gM::gN::OT::ja::jb::jc::jd::je::iJ::ma::me::mf::mg::mh::mi::mj::mm::ln::lp::lq::lr::lu::lx::ly::lz::lA::lB::f::m::p::s::E::b::v::W::e::g::i::B::y::h::j::n::o::q::r::ou::[]),[]⟩ D)(z:∀D A L f m p s E b v W e g i B y h j n o q r,Below (F (X w)) w D->(∃x∈a,dp (d.map (·.F)) (bI (bk x.e R.ay))<0)->Q .ret ⟨List.toArray (c0::c1::c2::c3::U G 0 0::Vb Bf::c6::c7::c8::U a9 (Z d) c9::ed::eM::eN::et::eu::dv::dy::Vp (P (C c 0 G))::U aw (Z a) cw::A::L::bX::bY::bZ::b7::b8::cc::cd::cg::ck::cm::cy::cz::cC::cD::cE::cK::cL::cM::cQ::cR::cS::cT::cU::cV::cW::cX::cY::cZ::da::cN::cO::de::dh::cG::dz::dA::dB::dC::dD::dE::dF::dG::dH::dO::dP::dQ::dR::ei::ev::ew::ey::ez::eP::eQ::eR::eS::eT::eU::eV::eA::eB::dW::dX::dY::eC::eD::eE::eF::eG::eH::eI::eJ::eW::eX::eY::eZ::e8::e9::fa::fi::ee::dN::fo::fp::fq::ft::fu::fM::fN::fO::fP::fw::fx::fy::fC::fD::fE::fF::fG::fH::fj::fk::fl::fI::fJ::fK::fL::eO::dV::gJ::gK::gL::gM::gN::OT::ja::jb::jc::jd::je::iJ::ma::me::mf::mg::mh::mi::mj::mm::ln::lp::lq::lr::lu::lx::ly::lz::lA::lB::f::m::p::s::E::b::v::W::e::g::i::B::y::h::j::n::o::q::r::ou::[]),[]⟩ D):Code.wp prog (Code.loop (FU 4)) Q ⟨List.toArray (c0::c1::c2::c3::U G 0 0::Vb Bf::c6::c7::c8::U a9 (Z d) c9::ed::eM::eN::et::eu::dv::dy::Vp (P (C c 0 G))::U aw (Z a) cw::I J (0:Nat)::cF::bX::bY::bZ::b7::b8::cc::cd::cg::ck::cm::cy::cz::cC::cD::cE::cK::cL::cM::cQ::cR::cS::cT::cU::cV::cW::cX::cY::cZ::da::cN::cO::de::dh::cG::dz::dA::dB::dC::dD::dE::dF::dG::dH::dO::dP::dQ::dR::ei::ev::ew::ey::ez::eP::eQ::eR::eS::eT::eU::eV::eA::eB::dW::dX::dY::eC::eD::eE::eF::eG::eH::eI::eJ::eW::eX::eY::eZ::e8::e9::fa::fi::ee::dN::fo::fp::fq::ft::fu::fM::fN::fO::fP::fw::fx::fy::fC::fD::fE::fF::fG::fH::fj::fk::fl::fI::fJ::fK::fL::eO::dV::gJ::gK::gL::gM::gN::OT::ja::jb::jc::jd::je::iJ::ma::me::mf::mg::mh::mi::mj::mm::ln::lp::lq::lr::lu::lx::ly::lz::lA::lB::mn::mo::mq::mr::rh::ri::rj::rk::rm::rq::rr::ry::rz::rA::rB::rC::rD::rE::rF::ou::[]),[]⟩ w:=by
 conv=>arg 2;arg 1;whnf
 have HF:=H u;have V:=H M;have yd:=H k;have HW:=H N;have lL:=H K;have HX:=H l;have HY:=H z;have agk:=(aM.1 k).1;clear u M k N K l z
 go_loopg [4,5,19] (Z a) (λz k K l wr=>k=U G 0 0/\K=Vb Bf/\∃k:Nat,l=I J k/\k<=Z a/\z=Z a-k/\Below (F (X w)) w wr/\∀x∈a.take k,¬dp (d.map (·.F)) (bI (bk x.e R.ay))<0)
 exact⟨rfl,rfl,0,rfl,O,O,aZ _ _,oS⟩
 case round=>
  obtain⟨rfl,rfl,k,rfl,_,_,z,l⟩:=hrel;have f:=H l;have HB:=H z
  by_cases m:k<Z a
  .have kf:(k:Int)<Z a:=O;have p:=HW.ai z;obtain⟨g5,_,sJ,_,pM,_,_,x0,x1,u⟩:=F6 p.row m;injection sJ with s i2 n
   subst s n;have s:=p.aK _ (aN m);obtain⟨n,q,o,r,K,M⟩:=s.jM.shape;rw[K]at x0;rw[M]at x1;have E:=s.jM;rw[K,M]at E;have b:=(z.block _ agk).trans yd;have b1:c<F (X wr):=(oF z.size);obtain⟨y0,-⟩:=aj b 0;obtain⟨y1,-⟩:=aj b 1;obtain⟨y2,-⟩:=aj b 2;obtain⟨y3,-⟩:=aj b 3;obtain⟨y4,-⟩:=aj b 4;simp only[bt,aT,bx]at y0 y1 y2 y3 y4;have L:=H (show a.take (k+1)=a.take k++[a[k]] from jr m);have Bd:=H (aN m);have A:=ag lL _ (aN m);have v:∀W,Below (F (X wr)) wr W->Calls prog 192 #[Va #[U n a[k].e.length q,U o a[k].e.length r],Va #[Y R.ay.ax,U S (Z R.ay.aq) T,Vb R.ay.no,I J R.ay.aC,I J R.ay.aO]] W (D4 W a[k].e R.ay):=λW N=>by
    have B:=E.ai N;have i:=z.trans (N.mono z.size);exact FV W 0 a[k].e R.ay n o S q r T ⟨aX B.ns (aI _),aX B.ts (aI _),B.nil⟩ (aQ V i (λg e=>(V.lt g e).2)) O
   have i:=H v;have d5:¬g5=F (X wr):=O;have db:¬c=F (X wr):=O
   have HK:Hid (∀W B:W8,Below (F (X wr)) wr W->Below (F (X W)) W B->Ce B (C g5 (k*3) G)=P (U n a[k].e.length q)/\Ce B (C g5 (k*3+1) G)=P (U o a[k].e.length r)/\Ce B (C c 0 G)=P (Y R.ay.ax)/\Ce B (C c 1 G)=P (U S (Z R.ay.aq) T)/\Ce B (C c 2 G)=P (Vb R.ay.no)/\Ce B (C c 3 G)=P (I J R.ay.aC)/\Ce B (C c 4 G)=P (I J R.ay.aO)):=H (λW B h j=>by
    have y:=h.trans (j.mono h.size)
    exact⟨(y.cell (oU pM)).trans x0,(y.cell (oU pM)).trans x1,(y.cell (oU b1)).trans y0,(y.cell (oU b1)).trans y1,(y.cell (oU b1)).trans y2,(y.cell (oU b1)).trans y3,(y.cell (oU b1)).trans y4⟩)
   have Ba:=H (show ∀y,y∈a.take (k+1)->(y∈a.take k\/y=a[k]) from λy hy=>by rw[ag L]at hy;rcases aS.1 hy with h|h;exact .inl h;exact .inr (bu.1 h));clear p s E v K M z l b L u;go_upto_region 32 with fail
   go_cut [20] from 160 to 178 (λp wc=>∃b v,p=Vp (P (C b 0 G))/\M5 wr (bk a[k].e R.ay) b v wc)
   case first=>
    generalize K:a[k].e=E at*
    go_region_held3 (λB=>Ce B (C g5 (k*3) G)=P (U n (Z E) q)/\Ce B (C g5 (k*3+1) G)=P (U o (Z E) r)/\Ce B (C c 0 G)=P (Y R.ay.ax)/\Ce B (C c 1 G)=P (U S (Z R.ay.aq) T)/\Ce B (C c 2 G)=P (Vb R.ay.no)/\Ce B (C c 3 G)=P (I J R.ay.aC)/\Ce B (C c 4 G)=P (I J R.ay.aO)) (first|go_keep|(refine⟨?_,?_,?_,?_,?_,?_,?_⟩<;>(refine(JV ?_).trans ?_<;>assumption))) ((go_at_call 192;refine(i _ oB).mono ?_;rintro e D⟨v,rfl,s,p⟩;obtain⟨L,M,rfl⟩:=aF s;obtain⟨_,_,_,_,_,_,_⟩:=ag HK _ _ oB p;have u:=λ(j:Nat) h=>p.cell (p:=(C (F (X wr)) j G)) h;have t:=λ(j:Nat) h=>p.frozen (p:=(C (F (X wr)) j G)) h;have j:=H s;clear s))
    all_goals
     go_wp2;go_meet
     case rel=>first|exact⟨_,_,rfl,M5.qw (W:=wr.drew) B9.drew p j⟩|exact⟨_,_,rfl,M5.ahead (W:=(Al wr (Vc #[Y ⟨#[]⟩,U G 0 0,Vb Bf,I J 0,I J 0] 243)).drew) oA.drew L9 (aG wr _) p j⟩
   case rest=>
    generalize wc=K at*;obtain⟨b,v,rfl,u⟩:=hcut;obtain⟨L,M,rfl⟩:=aF u.row;have t:=HB.trans (u.ai.mono HB.size);obtain⟨r0,-⟩:=aj u.blk 0;obtain⟨r1,-⟩:=aj u.blk 1;obtain⟨r2,-⟩:=aj u.blk 2;obtain⟨r3,-⟩:=aj u.blk 3;obtain⟨r4,-⟩:=aj u.blk 4;simp only[bt,aT,bx]at r0 r1 r2 r3 r4;replace r0:Ce K (C b 0 G)=P (Y R.ay.ax):=r0;have j:=u.row;have E:=H (show Calls prog 134 #[Va #[Y R.ay.ax,U L (bk a[k].e R.ay).aq.length M,Vb Bf,I J 0,I J 0]] K λe B=>∃s:B8,e=Vr (Y s)/\s.data.toList=fR (bk a[k].e R.ay)/\Below (F (X K)) K B from uP K (F (X wr)) (bk a[k].e R.ay) L M Bf 0 0 j A);have B:=HF.row;have s:=H (λ(W:W8)(N:Below (F (X K)) K W)=>yK W 0 a9 c9 d (bI (bk a[k].e R.ay)) (aQ B (t.trans (N.mono t.size)) (λg e=>(B.lt g e).2)));have W:=H t;clear u t j B i HK x0 x1 y0 y1 y2 y3 y4 d5 db A
    by_cases j:dp (d.map (·.F)) (bI (bk a[k].e R.ay))<0
    .have A:=H (show ∃x∈a,dp (d.map (·.F)) (bI (bk x.e R.ay))<0 from ⟨_,Bd,j⟩);generalize bk a[k].e R.ay=B at*;generalize dp (d.map (·.F)) (bI B)=u at*;go_wp2_with(first|(go_at_call 134;refine(E).mono ?_;rintro e D⟨tx,rfl,i,p⟩;obtain rfl:=AQ i;have g:=H p;clear i p)|(go_at_call 133;refine(s _ g).mono ?_;rintro e w3⟨rfl,x⟩;have x:=x.symm;subst x));apply HY
     .exact(W).trans (g.mono W.size)
     exact A
    have t:=H j;have A:=j;clear j;generalize bk a[k].e R.ay=B at A E s r0 r1 r2 r3 r4;generalize dp (d.map (·.F)) (bI B)=u at A s;go_wp2_with(first|(go_at_call 134;refine(E).mono ?_;rintro e D⟨tx,rfl,i,p⟩;obtain rfl:=AQ i;have g:=H p;clear i p)|(go_at_call 133;refine(s _ g).mono ?_;rintro e w3⟨rfl,x⟩;have x:=x.symm;subst x));go_roundg(Z a-(k+1))
    case measure=>omega
    case rel=>
     refine⟨rfl,rfl,k+1,oN,O,rfl,W.trans (g.mono W.size),λy hy=>?_⟩;rcases ag Ba y hy with h|h
     .exact f y h
     rw[h];exact t
  have kf:¬((k:Int)<Z a):=O
  have b:a.take k=a:=j7 O;rw[b]at f;clear l z b;go_wp2_with fail;apply HX
  .exact HB
  exact f
end
section
section
open Go.RowKit Go.Maps
attribute [local go_sem ↓] pB qa p9 pY
variable{b:Nat}
def Up{f Sp e}(h:mH f Sp b)(m:mH f Sp e):b=e:=by
 rcases h.2 with j|⟨k,i,_⟩
 .rcases m.2 with c|⟨d,a,g⟩
  .omega
  have:=h.1 d a;omega
 have l:=m.1 k i;rcases m.2 with c|⟨d,a,g⟩
 .omega
 have n:=h.1 d a;omega
variable{a:List Nat}
def Z0 :∀(n:Nat)(rest:List Nat)(l:List (Nat×List Nat)),kM a n rest=P l->Z l=n/\∀x∈l,a[x.1]?=P x.2.length
 | 0,[],l,h=>by obtain rfl:=cI h;simp
 | 0,_::_,l,h=>by cases h
 |_+1,[],l,h=>by cases h
 |n+1,r::q,l,h=>by
  rw[kM]at h
  split at h
  .cases h
  rename_i m e
  split at h
  .cases h
  rename_i g
  split at h
  .cases h
  rename_i f b;obtain rfl:=cI h;obtain⟨c,d⟩:=Z0 n _ f b;refine⟨by simp[c],λx n=>?_⟩;rcases bS.1 n with rfl|n
  .simp only[qk];rw[e,BG O]
  exact d x n
def ag0{d c}(h:rJ (iv d) a=P (b,c)):Z c<=50/\∀x∈c,∃k,x.2.length=(aY d[x.1].bs).length:=by
 match a,h with
 |k'::n::rest,h=>
  unfold rJ at h;simp only at h
  split at h
  .cases h
  rename_i j;obtain⟨l,e,R⟩:=DR.1 h;injection R with _ R
  subst R;obtain⟨m,i⟩:=Z0 n rest l e;refine⟨O,λx k=>?_⟩;have:=i x k;unfold iv at this;rw[gP]at this
  cases k:d[x.1]? with
  |none=>rw[k]at this;cases this
  |some R=>rw[k]at this;obtain⟨f,g⟩:=qj.1 k;refine⟨f,?_⟩;rw[g];exact(cI this).symm
noncomputable def tT(ps:P9)(Sp:B8->Nat)(k:Nat)(T:List Th)(t:Th):Nat:=open Classical in if t∈T then 1 else if(bE ps t.p).isSome=Bt/\k<=Sp t.p then 3 else 2
def acM(w:W8)(ps:P9)(Sp:B8->Nat)(rs:List PR)(bs:List Nat)(t:Th)(e:Ending)(w':W8):Prop:=
 Below (F (X w)) w w'/\((∃m k st,mH ps Sp m/\vn rs Sp m bs k st/\e=Vr (I J (tT ps Sp k (st.map (·.t)) t:Nat)))\/((∀m k st,mH ps Sp m->¬vn rs Sp m bs k st)/\e=Vr (I J (3:Nat))))
def Di.shape{w f b e}(h:Di w f b e):(b=G/\e=Vr (Vt #[Va #[I J 0,U G 0 0],Vb Bf]))\/∃k d a c,b=P (k,d.map gw)/\oh f (F (X w)) (U a (Z d) c) d/\e=Vr (Vt #[Va #[I J (k:Nat),U a (Z d) c],Vb Bt]):=by
 cases h with
 |no=>exact .inl ⟨rfl,rfl⟩
 |yes h=>exact .inr ⟨_,_,_,_,rfl,h,rfl⟩
structure acL(w:W8)(base tb n:Nat)(ps:P9)(Sp:B8->Nat)(rs:List PR)(rv:V9)(a:O8)(c:Nat)(bs:List Nat)(t:Th):Prop where
 bB:gi w base rv rs
 dI:∀r∈rs,kD ps r
 QS:dt prog 9 w tb n (bq ps Sp)
 str:∀k,(bE ps k).isSome=Bt->Sp k<=1000000
 b:ky w a c bs
 th:fY t
def amb(w f A n l Sp u M N a c V t)(h:acL w f A n l Sp u (U M (Z u) N) a c V t):Calls prog 78 #[U a (Z V) c,U M (Z u) N,.map (P A),cP t] w (acM w l Sp u V t):=by
 have b:=H h;have pn:=h.QS.lt;have s:=h.th;obtain⟨ct,j⟩:∃ct,ct=(bP t).toArray:=⟨_,rfl⟩;have i:=H j;unfold cP;rw[<-j];have q1:ct.size=5:=by rw[j];rfl
 clear j h;go_in;go_upto_region 1 with fail;generalize e:World.alloc w _=w0;have p:Below (F (X w)) w w0:=by rw[<-e];exact B9.alloc L9 _
 have k:TV w0 (F (X w)) t:=by rw[<-e,ag i];exact TV.new w t
 clear e
 have d:gi w0 f (U M (Z u) N) u:=⟨aQ b.bB.row p (λg e=>(b.bB.row.lt g e).2),λr x=>by
  have:=b.bB.aK r x
  exact⟨aQ this.hd p (λg e=>(this.hd.lt g e).2),this.bo.ai p,this.eq⟩⟩
 have zC:=H (ag3 w0 f a c V (b.b.ai p) M N u d (λr x=>(b.dI r x).l3));have q:=H p;have y:=H k;clear p k d;go_upto_region 2 with(go_at_call 121;refine(zC).mono ?_;rintro en R⟨d,k⟩;have p:=H k;clear k;rcases d.shape with⟨m,rfl⟩|⟨k,z,an,cn,m,v,rfl⟩<;>(have HF:=H m;clear m d))
 .go_wp2;go_ret;exact⟨(q.trans (p.mono q.size)).alloc (bf q.size p.size) _,.inr ⟨λm k d _ h=>(by obtain⟨ns,W,_⟩:=h;rw[ag HF]at W;cases W),rfl⟩⟩
 obtain⟨agx,B⟩:=ag0 HF;generalize o:World.alloc R _=S;have E:Below (F (X R)) R S:=by rw[<-o];exact B9.alloc L9 _
 have K:S.heap[F (X R)]?=P (Vc #[I J (k:Nat),U an (Z z) cn] 93):=by rw[<-o];exact aG R _
 clear o;have o:Below (F (X w)) w S:=q.trans ((p.trans (E.mono p.size)).mono q.size);have Q:=(aj K 0).1;have c1:=(aj K 1).1;simp only[bt,aT,bx]at Q c1
 have L:gi S f (U M (Z u) N) u:=⟨aQ b.bB.row o (λg e=>(b.bB.row.lt g e).2),λr x=>by
  have:=b.bB.aK r x
  exact⟨aQ this.hd o (λg e=>(this.hd.lt g e).2),this.bo.ai o,this.eq⟩⟩
 have zH:=H (ale S f A n k l Sp u M N z an cn ⟨L,b.dI,(v.ai E).dS (aI _),by simpa using agx,λx D=>B (gw x) (fW D),b.QS.block (o.block A pn),b.str⟩);have x:TV S (F (X w)) t:=(y.ai p).ai E;have D:=H x;have g:=H o;have T:=H K;clear v B o L x K E q y;go_upto_region 5 with(go_at_call 122;refine(zH).mono ?_;rintro en w3⟨y,m,j,h3⟩;have r:=H y;have i:=H j;clear y j;rcases h3 with⟨d,mb,K,rfl,y⟩|⟨xr,rfl⟩)
 .have q:Below (F (X w)) w w3:=g.trans (r.mono g.size);have OA:=(D.ai r).load;have j:=(r.block _ (aM.1 T).1).trans T;have x:=H q;have B:vn u Sp m V k d:=⟨z.map gw,HF,K⟩;have v:=H B;have L:=b.QS.block (q.block A pn);have E:t.p.size<=maxLen:=by
   have:=s.pd;unfold maxLen;omega
  have t0:Ce w3 (C (F (X w)) 0 G)=P (Y t.p):=(aj (D.ai r) 0).1;have d0:=(aj j 0).1;simp only[bt,aT]at d0;have WR:F (X R)<F (X w3):=(aM.1 j).1;have apn:=(D.ai r).lt;clear q K B j Q c1
  cases q:bK (iE d) t with
  |some j=>
   have B:=H (show tT l Sp k (d.map (·.t)) t=1 by
    unfold tT
    rw[aD (by rw[<-xK];exact xA.1 (by rw[q];rfl))])
   have o:=H q;clear q;go_wp2_with(at_lookup;refine xT _ rfl _ _ 82 rfl underlying82 mb (iE d) rfl y t rfl s _ rfl Bt (by rw[ag o];rfl) ?_);go_ret;exact⟨x,.inl ⟨m,k,d,i,v,by rw[ag B];rfl⟩⟩
  |none=>
   have K:t∉d.map (·.t):=λQ=>by
    rw[<-xK]at Q;have:=xA.2 Q;rw[q]at this
    cases this
   have o:=H q;clear q
   cases Q:bE l t.p with
   |none=>
    have B:=H (show tT l Sp k (d.map (·.t)) t=2 by
     unfold tT
     rw[aB K,aB (λh=>by rw[Q]at h;cases h.1)])
    have hu:(bq l Sp t.p).getD (Va #[Y ⟨#[]⟩,I J 0,I J 0])=Va #[Y ⟨#[]⟩,I J 0,I J 0]:=(by unfold bq;rw[Q];rfl);have hc:(bq l Sp t.p).isSome=false:=(by unfold bq;rw[Q];rfl);go_wp2_with(first|(at_lookup;refine xT _ rfl _ _ 82 rfl underlying82 mb (iE d) rfl y t rfl s _ rfl Bf (by rw[ag o];rfl) ?_)|(at_lookup;refine sY _ rfl _ _ 73 rfl 9 185 underlying9 underlying73 (zeroValue185 _) A n (bq l Sp) rfl L t.p rfl E _ hu _ hc ?_));go_ret;exact⟨x.alloc x.size _,.inl ⟨m,k,d,i,v,by rw[ag B];rfl⟩⟩
   |some q=>
    have hu:(bq l Sp t.p).getD (Va #[Y ⟨#[]⟩,I J 0,I J 0])=Va #[Y t.p,I J (Sp t.p),I J q]:=(by unfold bq;rw[Q];rfl);have hc:(bq l Sp t.p).isSome=true:=by unfold bq;rw[Q];rfl
    by_cases hS:Sp t.p<k
    .have rL:decide ((Sp t.p:Int)<k)=true:=oT
     have B:=H (show tT l Sp k (d.map (·.t)) t=2 by
      unfold tT
      rw[aB K,aB (λh=>O)])
     go_wp2_with(first|(at_lookup;refine xT _ rfl _ _ 82 rfl underlying82 mb (iE d) rfl y t rfl s _ rfl Bf (by rw[ag o];rfl) ?_)|(at_lookup;refine sY _ rfl _ _ 73 rfl 9 185 underlying9 underlying73 (zeroValue185 _) A n (bq l Sp) rfl L t.p rfl E _ hu _ hc ?_));go_ret;exact⟨x.alloc x.size _,.inl ⟨m,k,d,i,v,by rw[ag B];rfl⟩⟩
    have rL:decide ((Sp t.p:Int)<k)=false:=oT
    have B:=H (show tT l Sp k (d.map (·.t)) t=3 by
     unfold tT
     rw[aB K,aD ⟨by rw[Q];rfl,O⟩])
    go_wp2_with(first|(at_lookup;refine xT _ rfl _ _ 82 rfl underlying82 mb (iE d) rfl y t rfl s _ rfl Bf (by rw[ag o];rfl) ?_)|(at_lookup;refine sY _ rfl _ _ 73 rfl 9 185 underlying9 underlying73 (zeroValue185 _) A n (bq l Sp) rfl L t.p rfl E _ hu _ hc ?_));go_ret;exact⟨x.alloc x.size _,.inl ⟨m,k,d,i,v,by rw[ag B];rfl⟩⟩
 go_wp2;go_ret;refine⟨g.trans (r.mono g.size),.inr ⟨λo q d j h=>?_,rfl⟩⟩;obtain⟨ns,W,o,h3⟩:=h;rw[ag HF]at W;obtain⟨rfl,rfl⟩:k=q/\z.map gw=ns:=by simpa using W
 have e:=Up i j;subst e;exact xr d ⟨o,h3⟩
end
end
end Go.Proofs.YtldkpahaocjdpaaGreat
