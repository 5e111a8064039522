/-
  The reference's positive: how many positive literals a rule has.
-/
import Derived.Test.YtldkpahaocjdpaaGreatA07
import Derived.Test.YtldkpahaocjdpaaGreatA08
set_option maxHeartbeats 16000000
set_option maxRecDepth 1000000
namespace Go.Proofs.YtldkpahaocjdpaaGreat
open Go.Value renaming slice->U,int->I,string->Y,bool->Vb,pointer->Vp,agg->Va,tuple->Vt
open Go.IntKind renaming i64->J
open Go.Ending renaming returned->Vr
open Go.Obj renaming cells->Vc
open _root_.Option renaming none->G,some->P
open _root_.Bool renaming true->Bt,false->Bf
open Go.Addr renaming mk->C
open _root_.List renaming length->Z
open Go.World renaming heap->X,alloc->Al,setCell->Sc,cell?->Ce,ownsRow->Ow
open _root_.Array renaming size->F
open Go.Proofs.Tryz
set_option linter.defProp false
open Go.RowKit
def gD(b:List aR):Nat:=(b.filter λA=>!A.no).length
def ZI{b k}(h:k<Z b):gD (b.take (k+1))=gD (b.take k)+if b[k].no then 0 else 1:=by
 unfold gD;rw[jr h,LP,br]
 congr 1
 cases a:b[k].no<;>simp[a]
def PS(b):gD b<=Z b:=qU _ _
def alq(w c R g a q)(h:lN w c R g a q)(x:Z a<=1000):Calls prog 228 #[oJ R.ay g q] w λe o=>e=Vr (I J (gD R.body:Nat))/\Below (F (X w)) w o:=by
 obtain⟨o,e,rfl⟩:=aF h.bo;obtain⟨p,b,rfl⟩:=aF h.hd;rw[h.eq];unfold oJ;have i:zV w c R (U p (Z R.ay.aq) b) a (U o (Z a) e) (Al w (Vc #[Y R.ay.ax,U p (Z R.ay.aq) b,Vb R.ay.no,I J R.ay.aC,I J R.ay.aO,U o (Z a) e] 246)):=⟨h.kept ((ak.refl [] _).alloc _) oS,by rw[World.cell?_alloc_at _ _ _ _ rfl];rfl,oS,B9.alloc L9 _⟩;have j:=H i;clear h i;go_in;go_wp2_with fail;generalize(Al w (Vc #[Y R.ay.ax,U p (Z R.ay.aq) b,Vb R.ay.no,I J R.ay.aC,I J R.ay.aO,U o (Z a) e] 246))=u at*
 go_loopg [3,4] (Z a) (λf n i wr=>∃k m:Nat,k<=Z a/\f=Z a-k/\m=gD ((a.map (·.1)).take k)/\n=I J m/\i=I J k/\wr=u)
 exact⟨0,0,aI _,rfl,rfl,rfl,rfl,rfl⟩
 case round=>
  obtain⟨k,m,_,_,f,rfl,rfl,rfl⟩:=hrel;have h:=ag j;have s:=h.box;have t:m<=Z a:=by rw[f];exact bf (PS _) (by rw[qk,bF];omega)
  by_cases d:k<Z a
  .obtain⟨_,_,g,-,_,_,_,_,_,r,_,_⟩:=qx h.cH.bo k d;injection g with i v n
   subst i n;have i:gD ((a.map (·.1)).take (k+1))=m+if a[k].1.no then 0 else 1:=by rw[ZI (by rw[bF];exact d),<-f,nB]
   have n:=H i;clear i h f
   cases i:a[k].1.no with
   |true=>rw[i]at r;have l:=H i;clear i;go_wp2;go_roundg(Z a-(k+1));exact⟨k+1,m,O,rfl,by rw[ag n,aD (ag l)];rfl,rfl,oN,rfl⟩;omega
   |false=>rw[i]at r;have l:=H i;clear i;go_wp2;go_roundg(Z a-(k+1));exact⟨k+1,m+1,O,rfl,by rw[ag n,aB (by rw[ag l];simp)],oN,oN,rfl⟩;omega
  have l:k=Z a:=O
  subst l;have n:=H (show m=gD (a.map (·.1)) by rw[f,j7 (by rw[bF];exact bD _)]);have l:=H h.ai;clear h f;go_wp2;go_ret;exact⟨by rw[<-ag n];rfl,l⟩
def aiD(l):∀a,(gZ l a).2.length<=Z a+Z l:=by
 induction l with
 |nil=>intro a;simp[gZ]
 |cons A r b=>
  intro a;have h:=O6 a A.ax (Z A.aq);rw[gZ]
  split
  .have:=b (jh a A.ax (Z A.aq));simp only[ff];omega
  simp only[ff];omega
def XX(a:B8)(m:P9):∀(l:P9)(k:Nat),0<=ij a l k->ij a (l++m) k=ij a l k
 | [],k,h=>by simp[ij]at h
 |x::r,k,h=>by
  rw[jA];unfold ij at h⊢
  split
  .rfl
  rename_i l;rw[aB l]at h;exact XX a m r (k+1) h
def XY(a:B8)(n:Nat):∀(l:P9)(k:Nat),0<=ij a (l++[(a,n)]) k
 | [],k=>by simp[ij]
 |x::r,k=>by
  rw[jA];unfold ij
  split
  .omega
  exact XY a n r (k+1)
def aiA(b a n):0<=aL (jh b a n) a:=by
 unfold jh;split
 .exact XY a n b 0
 omega
def aiB(a b n x)(h:0<=aL a x):0<=aL (jh a b n) x:=by
 unfold jh;split
 .unfold aL at*;rw[XX x _ a 0 h];exact h
 exact h
def aiz(l):∀a,(gZ l a).1<0->(∀A∈l,0<=aL (gZ l a).2 A.ax)/\(∀b,0<=aL a b->0<=aL (gZ l a).2 b):=by
 induction l with
 |nil=>intro a _;exact⟨oS,λb h=>h⟩
 |cons A r i=>
  intro a h;rw[gZ]at h⊢
  split
  .rename_i d;rw[aD d]at h;obtain⟨f,e⟩:=i _ h;refine⟨λB c=>?_,λb g=>e b (aiB a A.ax (Z A.aq) b g)⟩;rcases bS.1 c with rfl|c
   .exact e _ (aiA a B.ax (Z B.aq))
   exact f B c
  rename_i d;rw[aB d]at h;simp at h;omega
def My(l)(h:¬0<=(gZ l []).1):OU (gZ l []).2 l:=(aiz l [] O).1
def ag4(n m i):∀d k(M:Nat->Nat->Bool),n-k=d->∀a b,vB n m i M k a b=(M a b||(decide (a=i)&&decide (k<=b)&&decide (b<n)&&M i m&&M m b)):=by
 intro d
 induction d with
 |zero=>
  intro k M p a b;rw[Vk O];have:¬(k<=b/\b<n):=O
  by_cases l:k<=b<;>by_cases o:b<n<;>simp[l,o]<;>omega
 |succ d q=>
  intro k M p a b;rw[Vl O,q (k+1) _ O a b];have g:∀a b,(if M i m&&M m k then sg M i k else M) a b=(M a b||(decide (a=i)&&decide (b=k)&&M i m&&M m k)):=by
   intro a b
   cases l:M i m<;>cases o:M m k<;>simp[sg,Bool.or_comm]
  rw[g a b,g i m,g m b];have h:k<n:=O
  by_cases c:a=i
  .by_cases e:b=k
   .subst e
    cases M a b<;>cases M i m<;>cases M m b<;>simp[c,h]
   by_cases j:k<=b
   .have f:k+1<=b:=O
    cases M a b<;>cases M i m<;>cases M m b<;>simp[c,e,j,f]
   have f:¬k+1<=b:=O
   cases M a b<;>simp[e,j,f]
  cases M a b<;>simp[c]
def Vi(n m):∀d i(M:Nat->Nat->Bool),n-i=d->∀a b,ph n m M i a b=(M a b||(decide (i<=a)&&decide (a<n)&&decide (b<n)&&M a m&&M m b)):=by
 intro d
 induction d with
 |zero=>
  intro i M k a b;rw[Vh O]
  by_cases g:i<=a<;>by_cases h:a<n<;>simp[g,h]<;>omega
 |succ d l=>
  intro i M k a b;have g:=ag4 n m i _ 0 M rfl;rw[Vj O,l (i+1) _ O a b,g a b,g a m,g m b];have h:i<n:=O
  by_cases e:a=i
  .subst e;have c:¬a+1<=a:=O
   cases M a b<;>cases M a m<;>cases M m b<;>simp[c,h]
  by_cases f:i<=a
  .have c:i+1<=a:=O
   by_cases j:m=i
   .subst j
    cases M a b<;>cases M a m<;>cases M m b<;>cases M m m<;>simp[e,f,c]
   cases M a b<;>cases M a m<;>cases M m b<;>simp[e,f,c,j]
  have c:¬i+1<=a:=O
  cases M a b<;>simp[e,f,c]
def Vm(n):∀d m(M:Nat->Nat->Bool),n-m=d->m<=n->(∀i j k,i<n->k<n->j<m->M i j=Bt->M j k=Bt->M i k=Bt) ->(∀i j k,i<n->k<n->j<n->kU n M m i j=Bt->kU n M m j k=Bt->kU n M m i k=Bt)/\(∀i k,M i k=Bt->kU n M m i k=Bt):=by
 intro d
 induction d with
 |zero=>intro m M t r h;rw[Nk O];exact⟨λi j k g l u=>h i j k g l O,λi k h=>h⟩
 |succ d v=>
  intro m M t r h;have q:m<n:=O
  have s:=Vi n m _ 0 M rfl;rw[Nl q];have e:∀i j k,i<n->k<n->j<m+1->ph n m M 0 i j=Bt->ph n m M 0 j k=Bt->ph n m M 0 i k=true:=by
   intro i j k g l u a b;have p:j<n:=O;rw[s]at a b⊢;simp only[aI,decide_true,Br,g,p,l,zM,pE]at a b⊢
   by_cases c:j=m
   .subst c;have c:M i j=true:=(by rcases a with a|a;exact a;exact a.1);have o:M j k=true:=(by rcases b with b|b;exact b;exact b.2);exact .inr ⟨c,o⟩
   have c:j<m:=O;rcases a with a|⟨a,o⟩<;>rcases b with b|⟨b,f⟩
   .exact .inl (h i j k g l c a b)
   .exact .inr ⟨h i j m g q c a b,f⟩
   .exact .inr ⟨a,h m j k q l c o b⟩
   exact .inr ⟨a,f⟩
  obtain⟨b,c⟩:=v (m+1) (ph n m M 0) O O e;exact⟨b,λi k a=>c i k (by rw[s,a];rfl)⟩
variable {b e f:Nat}{c:Nat->Nat->Bool}
def anX{a}(h:c a b=Bt):sg c e f a b=true:=by simp[sg,h]
variable {a:P9}
def UH(l):∀{M:Nat->Nat->Bool} {e h:Nat},M e h=Bt->vx a b l M e h=true:=by
 induction l with
 |nil=>intro M e h c;exact c
 |cons A r d=>intro M e h c;exact d (anX c)
def afc(l):∀{M:Nat->Nat->Bool} {e b:Nat},M e b=Bt->rH a l M e b=true:=by
 induction l with
 |nil=>intro M e b c;exact c
 |cons R r d=>intro M e b c;exact d (UH R.body c)
def af8(l):∀{M:Nat->Nat->Bool} {A:aR},A∈l->vx a b l M b (bH a A.ax)=true:=by
 induction l with
 |nil=>intro M A h;cases h
 |cons B r c=>
  intro M A h;rcases bS.1 h with rfl|h
  .exact UH r (by simp[sg])
  exact c h
def afa(l):∀{M:Nat->Nat->Bool} {R:bg} {A:aR},R∈l->A∈R.body->rH a l M (bH a R.ay.ax) (bH a A.ax)=true:=by
 induction l with
 |nil=>intro M R A b;cases b
 |cons B r d=>
  intro M R A b c;rcases bS.1 b with rfl|b
  .exact afc r (af8 R.body c)
  exact d b c
variable {d:List bg}
def Nz{ps R A}(c:R∈d)(b:A∈R.body):jf ps d (bH ps R.ay.ax) (bH ps A.ax)=true:=
 (Vm (Z ps) _ 0 _ rfl (aI _) (by intro i j k _ _ a;omega)).2 _ _ (afa d c b)
def NA(k:b<Z a)(c:e<Z a)(g:f<Z a)(i:jf a d b e=Bt)(j:jf a d e f=Bt):jf a d b f=true:=
 (Vm (Z a) _ 0 (rH a d (λ_ _=>Bf)) rfl (aI _) (by intro b e f _ _ c;omega)).1 b e f k g c i j
def aeR{d}(l)(h:nI a c d l<0):∀A∈l,nH a c d A=false:=by
 induction l with
 |nil=>simp
 |cons B r f=>
  rw[nI]at h
  split at h
  .omega
  rename_i e;intro A b;rcases bS.1 b with rfl|b
  .simpa using e
  exact f h A b
def aeW(l)(h:ju a c l<0):∀R∈l,∀A∈R.body,nH a c R.ay.ax A=false:=by
 induction l with
 |nil=>simp
 |cons B r b=>
  rw[ju]at h
  split at h
  .omega
  rename_i d;intro R A;rcases bS.1 A with rfl|A
  .exact aeR R.body O
  exact b h R A
def aeN{α:Type}{p r}(l:List α)(h:∀x∈l,p x=Bt->r x=Bt){y}(a:y∈l)(c:r y=Bt)(b:p y=Bf):l.countP p+1<=l.countP r:=by
 induction l with
 |nil=>cases a
 |cons x t d=>
  have g:t.countP p<=t.countP r:=S6 (λz e=>h z (bG _ e));rcases bS.1 a with rfl|a
  .rw[GK c,LN (by rw[b];decide)];omega
  have f:=d (λz e=>h z (bG _ e)) a
  cases e:p x with
  |true=>rw[GK e,GK (h x bz e)];omega
  |false=>
   rw[LN (by rw[e];decide)];have:t.countP r<=(x::t).countP r:=by
    cases z:r x with
    |true=>rw[GK z];omega
    |false=>rw[LN (by rw[z];decide)];omega
   omega
def zk(ps:P9)(rs:List bg)(p x:Nat):Bool:=
 rs.any λR=>R.body.any λA=>A.no&&((p==bH ps R.ay.ax||jf ps rs p (bH ps R.ay.ax))&&(bH ps A.ax==x||jf ps rs (bH ps A.ax) x))
def abh(a b)(l:OU a (b.flatMap bg.gS))(h:¬0<=ju a (jf a b) b):∃f,kQ a b f/\∀i,f i<=Z a:=by
 have y:=aeW b (show ju a (jf a b) b<0 by omega);have s:∀R∈b,0<=aL a R.ay.ax:=λR f=>l _ (gh.2 ⟨R,f,bz⟩)
 have o:∀R∈b,∀A∈R.body,0<=aL a A.ax:=λR f A g=>l _ (gh.2 ⟨R,f,bG _ g⟩)
 have n:∀R∈b,bH a R.ay.ax<Z a:=λR f=>mS (s R f)
 have j:∀R∈b,∀A∈R.body,bH a A.ax<Z a:=λR f A g=>mS (o R f A g)
 refine⟨λp=>(List.range (Z a)).countP (zk a b p),λR f A g=>?_,λi=>by have:=List.countP_le_length (p:=zk a b i) (l:=List.range (Z a));simpa using this⟩;have u:=Nz (ps:=a) f g;have m:∀x∈List.range (Z a),zk a b (bH a A.ax) x=Bt->zk a b (bH a R.ay.ax) x=true:=by
  intro x _ t;unfold zk at t⊢;simp only[va,pE,zM,qV]at t⊢;obtain⟨c,i,k,d,w,p,e⟩:=t;refine⟨c,i,k,d,w,.inr ?_,e⟩;rcases p with p|p
  .rw[<-p];exact u
  exact NA (n R f) (j R f A g) (n c i) u p
 unfold sn
 cases t:A.no with
 |false=>simp only[qi,pG,iy];exact S6 m
 |true=>
  simp only[lM];refine aeN _ m (y:=bH a A.ax) (tj.2 (j R f A g)) ?_ ?_
  .unfold zk;simp only[va,pE,zM,qV];exact⟨R,f,A,g,t,.inl rfl,.inl rfl⟩
  cases v:zk a b (bH a A.ax) (bH a A.ax) with
  |false=>rfl
  |true=>
   exfalso
   unfold zk at v;simp only[va,pE,zM,qV]at v;obtain⟨c,i,k,d,w,p,e⟩:=v;have v:=y c i k d;unfold nH at v;rw[w,Br,Bool.or_eq_false_iff]at v;obtain⟨q,r⟩:=v;have v:=j R f A g;have g:=n c i;have R:=j c i k d;have f:bH a k.ax=bH a c.ay.ax\/jf a b (bH a k.ax) (bH a c.ay.ax)=true:=by
    rcases e with e|e<;>rcases p with p|p
    .exact .inl (e.trans p)
    .exact .inr (by rw[e];exact p)
    .exact .inr (by rw[<-p];exact e)
    exact .inr (NA R v g e p)
   rcases f with f|f
   .have z:=o c i k d;have B:=s c i;unfold bH at f;have:aL a k.ax=aL a c.ay.ax:=O
    rw[this]at q;simp at q
   rw[f]at r;cases r
def ahj:(prog.info? 246).map (λi=>(i.zero,i.size,i.bytes))=P (P (Va #[Y ⟨#[]⟩,U G 0 0,Vb Bf,I J 0,I J 0,U G 0 0]),6,88):=oK
structure zR(w:W8)(b o:Nat)(s:B8)(rs:List RR)(p:Nat)(bd:Int)(rv:V9)(wr:W8):Prop where
 nk:gF wr b s p bd
 hp:p<=s.size
 mem:kc wr o rs [] [] rv (U G 0 0) (U G 0 0) (U G 0 0)
 bo:b<o
 bw:F (X w)<=b
 ai:Below (F (X w)) w wr
 dc:∀r∈rs,Z r.R.body<=4
variable {a:B8}{b c:W8}
def zR.call{w o e p g f d wr s}(h:zR b w o a e p g f c)(k:ak [w] c d)(m:gF d w a wr s)(l:wr<=a.size):zR b w o a e wr s f d:=
 have n:=h.bo;have q:=h.bw
 ⟨m,l,h.mem.kept k oT,h.bo,h.bw,h.ai.trans ⟨k.os,k.tape,k.output,k.size,λi j=>k.block i (iz j h.ai.size) oT⟩,h.dc⟩
def ahH(s:Below (Al b (Vc #[Y a,I .u8 0,Y ⟨#[]⟩,I J 0,I J 0,I J (-1)] 235)).heap.size (Al b (Vc #[Y a,I .u8 0,Y ⟨#[]⟩,I J 0,I J 0,I J (-1)] 235)) c):zR b (F (X b)) (F (X c)) a [] 0 (-1) (U G 0 0) (Al (Sc (Sc (Sc (Sc c (C (F (X b)) 1 G) (I .u8 (az a 0).kind)) (C (F (X b)) 2 G) (Y (az a 0).text)) (C (F (X b)) 3 G) (I J (az a 0).aC)) (C (F (X b)) 4 G) (I J (az a 0).zto)) (Vc #[U G 0 0,U G 0 0,U G 0 0,U G 0 0] 240)):=by
 have f:=s.size;simp at f;have x:∀j,Ce c (C (F (X b)) j G)=#[Y a,I .u8 0,Y ⟨#[]⟩,I J 0,I J 0,I J (-1)][j]?:=λj=>(s.cell (p:=(C (F (X b)) j G)) oS).trans (by rw[World.cell?_alloc_at _ _ _ _ rfl])
 have q:∀j,c.frozen? (C (F (X b)) j G)=false:=λj=>(s.frozen (p:=(C (F (X b)) j G)) oS).trans (by rw[World.frozen?_alloc_at _ _ _ _ rfl])
 have h:=x 0;have k:=x 1;have l:=x 2;have m:=x 3;have n:=x 4;have p:=x 5;clear x;have x:=OL c (F (X b)) (I .u8 (az a 0).kind) (Y (az a 0).text) (I J (az a 0).aC) (I J (az a 0).zto);have e:gF (Sc (Sc (Sc (Sc c (C (F (X b)) 1 G) (I .u8 (az a 0).kind)) (C (F (X b)) 2 G) (Y (az a 0).text)) (C (F (X b)) 3 G) (I J (az a 0).aC)) (C (F (X b)) 4 G) (I J (az a 0).zto)) (F (X b)) a 0 (-1):=by
  refine⟨oT,?_,?_,?_,?_,?_,?_,?_⟩
  all_goals go_simp
 have w:Below (F (X b)) b c:=oA.trans (s.mono oS);generalize d:Sc (Sc (Sc (Sc c (C (F (X b)) 1 G) (I .u8 (az a 0).kind)) (C (F (X b)) 2 G) (Y (az a 0).text)) (C (F (X b)) 3 G) (I J (az a 0).aC)) (C (F (X b)) 4 G) (I J (az a 0).zto)=W at*;have j:F (X W)=F (X c):=by rw[<-d];simp
 refine⟨e.kept ((ak.refl [] _).alloc _) oS,aI _,?_,O,bD _,?_,oS⟩
 .rw[<-j];refine⟨oS,?_,?_,?_,?_,?_,dm _ _ _ _,oS,dm _ _ _ _,dm _ _ _ _⟩
  all_goals first|(rw[World.cell?_alloc_at _ _ _ _ rfl];rfl)|(intro o;rw[World.frozen?_alloc_at _ _ _ _ rfl])
 have o:Below (F (X b)) c W:=⟨x.os,x.tape,x.output,x.size,λi g=>x.block i O oT⟩;exact(w.trans o).alloc O _
def alD(a o)(r:RR):((Al (Al a o) (Vc #[Y r.R.ay.ax,r.hv,Vb r.R.ay.no,I J r.R.ay.aC,I J r.R.ay.aO,r.bv] 246)).drew).heap[F (X a)+1]?=P (Vc #[Y r.R.ay.ax,r.hv,Vb r.R.ay.no,I J r.R.ay.aC,I J r.R.ay.aO,r.bv] 246):=by have:=aG (Al a o) (Vc #[Y r.R.ay.ax,r.hv,Vb r.R.ay.no,I J r.R.ay.aC,I J r.R.ay.aO,r.bv] 246);rw[bL]at this;exact this
def alv(R a b n m c d f):∀u∈(RR.mk R (U a n c) f (U b m d)).cells,u.oneCell'=true:=by intro u e;simp[RR.cells]at e;rcases e with rfl|rfl|rfl|rfl|rfl|rfl<;>rfl
def Ec(s:B8)(w:W8)(y:O8)(w':W8):Prop:=∀a,y=P a->∃(o:Nat)(rs:List RR)(ps:P9)(rv pv tv:V9)(gs:Nat)(S:Nat->Nat),a=(C o 0 G)/\(F (X w))<=o/\o<gs/\kC w' o rs ps rv pv tv (U (P (C gs 0 G)) (Z ps) (Z ps))/\jW w' gs (Z ps) S/\kQ ps (rs.map (·.R)) S/\oe ps (rs.map (·.R)) S/\rs.map (·.R)=(bT s).1/\ps=(bh s).2/\OU ps ((bT s).1.flatMap bg.gS)
def C2(s w a):Ec s w G a:=λ_ h=>by cases h
def ai3(s w)(hs:s.size<=800):Calls prog 79 #[Y s] w λe b=>∃y,e=Vr (Vt #[Vp y,I J (eK s).2.1,I J (eK s).2.2])/\y.isSome=(eK s).1/\Below (F (X w)) w b/\Ec s w y b:=by
 have pN:s.size<=maxLen:=oM
 have hsI:(s.size:Int)<=800:=O
 obtain⟨i0,hi,gB,dx,cB⟩:=info_parts ahj;go_in;go_wp2_with fail;refine(M6 s 0 (aI _) pN _).mono ?_;rintro e h⟨rfl,b⟩;obtain⟨f,p⟩:=Jy b;have hz:F (X w)<F (X h):=by have:=b.size;simp at this;omega
 have c:=H (ahH b);go_wp2_with fail;clear f p b
 go_loopg [7] 32 (λf i wr=>∃(y:List RR)(p:Nat)(b:Int)(rv:V9),Z y<=31/\(Z y=31->0<=b)/\f=32-Z y/\zR w (F (X w)) (F (X h)) s y p b rv wr/\bT s=pz s (31-(y.map (·.R)).length) p b (y.map (·.R)))
 exact⟨[],0,-1,_,oS,oS,rfl,c,rfl⟩
 case round=>
  clear c;obtain⟨y,p,b,rv,l,c,_,i,f⟩:=hrel;have M:=H f;clear f;obtain⟨z,f,rfl⟩:=aF i.mem.bB;obtain⟨_,c0,c1,c2,c3,c4,c5,fz⟩:=i.nk;have yR:=i.bo
  cases a:pj s p b with
  |true=>
   have n:((az s p).kind != 46)=true:=(by unfold pj at a;simp at a;simpa using a.1);have o:b<0:=(by unfold pj at a;simp at a;exact a.2);have V:Z y<=30:=(by rcases BE (Z y) 31 with h1|h1;omega;have:=c O;omega);have d:=M.trans (alK s p b (y.map (·.R)) (oU V) a);rw[bF]at d;have Dk:=H d;have T:=i.mem.c0;have IU:=i.mem.lt;have WB:(Z y:Int)<=30:=O;clear M d a l c
   by_cases d:Z y=30
   all_goals
    first
    | (have R:iD s p b (Z y)=kq s p b:=(by simp[iD,d]);have amU:((Z y:Int)==30)=true:=oT;have TB:=H R;clear R d;go_wp2_with fail;refine(B7 s p b (F (X w)) _ i.nk).mono ?_;rintro e w0⟨rfl,Q,l⟩;rw[<-ag TB]at l;have c:=i.call Q l i.hp;clear Q l c0 c1 c2 c3 c4 c5 fz i T;go_wp2_with fail)
    | (have R:iD s p b (Z y)=b:=(by simp[iD,d]);have amU:((Z y:Int)==30)=false:=oT;have TB:=H R;clear R d;go_wp2_with fail;have c:zR w (F (X w)) (F (X h)) s y p (iD s p b (Z y)) (U z (Z y) f) wr:=(by rw[ag TB];exact i);clear c0 c1 c2 c3 c4 c5 fz i T)
    refine(alC s p (iD s p b (Z y)) (F (X w)) _ c.nk c.hp pN).mono ?_;rintro e l⟨_,Q,_,rfl,R,xu,T,d⟩;obtain⟨v,B,q⟩:=aF d.hd;obtain⟨u,A,S⟩:=aF d.bo;generalize hnh:(bg.mk (jZ s p (iD s p b (Z y))) (ko s p (iD s p b (Z y))).1).ay.aq.length=L at q;generalize Ct:Z Q=K at S;subst q S;have apc:=c.mem.lt;have S:=c.call R xu T;have q:lN l (F (X h)+1) (pS s p (iD s p b (Z y))) (U v L B) Q (U u K A):=⟨aX d.hd O,aX d.bo O,λx j=>aX (d.bl x j) O,d.eq⟩;have j:=S.mem.bB;have t:=S.mem.lt;have N:=H j;have s7:Hid (∀W m:W8,ak [] l W->W.grownBy m (U z (Z y) f).ownBlock->Ce m (C (F (X h)) 0 G)=P (U z (Z y) f)/\m.frozen? (C (F (X h)) 0 G)=Bf):=λW m r hg=>
     have g:=Ex (λk D=>r.block k D oS) r.size j hg t
     ⟨(j8 g).trans S.mem.c0,(zQ g).trans (S.mem.fz 0)⟩
    have s8:Hid (∀(W m:W8)(g x:Nat),ak [] l W->W.grownBy m (U z (Z y) f).ownBlock->Ow m (F (X h)+1) 246 6 (U (P (C g 0 G)) (Z y+1) x) (Z y+1) (tR y++[Y (jZ s p (iD s p b (Z y))).ax,U v L B,Vb (jZ s p (iD s p b (Z y))).no,I J (jZ s p (iD s p b (Z y))).aC,I J (jZ s p (iD s p b (Z y))).aO,U u K A])->zR w (F (X w)) (F (X h)) s (y++[(RR.mk (pS s p (iD s p b (Z y))) (U v L B) Q (U u K A))]) (uQ s p (iD s p b (Z y))) (nT s p (iD s p b (Z y))) (U (P (C g 0 G)) (Z y+1) x) (Sc m (C (F (X h)) 0 G) (U (P (C g 0 G)) (Z y+1) x))):=λW m g x r hg E=>by
     have hW:=λk D=>r.block k D oS
     have hS:=r.size;have W:=MS (j:=0) (u:=U (P (C g 0 G)) (Z y+1) x) hW hS r.os r.tape r.output j hg t;have EF:=S.bw;refine⟨?_,T,S.mem.am6 hW hS hg q E,S.bo,S.bw,S.ai.trans (W.mono O),λr E=>?_⟩
     .exact S.nk.kept (⟨W.os,W.tape,W.output,W.size,λk D hn=>by
       by_cases hko:k<F (X h)
       .exact W.block k hko
       exact absurd (List.mem_range'_1.2 ⟨O,O⟩) hn⟩:ak (List.range' (F (X h)) (F (X l))) l _) (by intro k;have:=(List.mem_range'_1.1 k).1;omega)
     rcases aS.1 E with E|E
     .exact S.dc r E
     simp at E;subst E;exact aeb s p _
    have E:=S.mem.c0;have W:Hid (Z y=30->0<=nT s p (iD s p b (Z y))):=λe=>alI e
    clear j d q R xu c S hnh Ct;unfold oJ;go_wp2
    go_region_law(refine step_append_lies _ rfl (.tmp 55) (.tmp 57) 238 rfl (F (X h)+1) 246 i0 (Va #[Y ⟨#[]⟩,U G 0 0,Vb Bf,I J 0,I J 0,U G 0 0]) 6 88 underlying238 hi gB dx cB rfl oD (U z (Z y) f) (Z y) (tR y) (by simp[Act.eval]) ((N.alloc _).alloc _) (C (F (X l)+1) 0 G) 1 1 [Y (jZ s p (iD s p b (Z y))).ax,U v L B,Vb (jZ s p (iD s p b (Z y))).no,I J (jZ s p (iD s p b (Z y))).aC,I J (jZ s p (iD s p b (Z y))).aO,U u K A] (by simp[Act.eval]) rfl (World.news_of_block (alD l _ (RR.mk (pS s p (iD s p b (Z y))) (U v L B) Q (U u K A)))) (alv (pS s p (iD s p b (Z y))) v u L K B A Q) oD oM O oT _ rfl ?_;intro g x m S c R q;obtain⟨_,_⟩:=s7 _ m (((ak.refl [] l).alloc _).alloc _).drew c)
    all_goals
     go_wp2;go_roundg(32-(Z y+1));exact⟨_,_,_,_,oT,λe=>W (by simp at e;omega),oS,s8 _ m g x (((ak.refl [] l).alloc _).alloc _).drew c S,by rw[fg];exact Dk⟩;omega
  |false=>
   have g:bT s=(y.map (·.R),p,b):=M.trans (aa7 s _ p b _ a);have c:¬800<s.size:=O
   by_cases o:0<=b
   .have t:eK s=(Bf,2,b):=(by unfold eK;rw[aB c,g,aD o]);have u:=H t;clear M t g
    by_cases n:((az s p).kind != 46)=Bt
    .go_wp2;go_quiet(fail)
     go_wp2
     go_ret3
     exact⟨G,by rw[ag u];rfl,by rw[ag u];rfl,below_drewN i.ai _,C2 _ _ _⟩
    have t:((az s p).kind != 46)=false:=(oU n);clear n;go_wp2;go_quiet(fail)
    go_wp2
    go_ret3
    exact⟨G,by rw[ag u];rfl,by rw[ag u];rfl,below_drewN i.ai _,C2 _ _ _⟩
   have t:((az s p).kind != 46)=false:=by
    unfold pj at a
    cases D:(az s p).kind != 46 with
    |false=>rfl
    |true=>rw[D]at a;simp at a;omega
   have R:(gT y).length<=1000:=(oF (adW y i.dc));have x:gT y=(bT s).1.flatMap bg.gS:=(by rw[g];exact TR y);have n:bh s=gZ (gT y) []:=(by unfold bh;rw[x]);have A:eK s=if 0<=(gZ (gT y) []).1 then(Bf,3,(gZ (gT y) []).1) else if 0<=iF (y.map (·.R)) then(Bf,4,iF (y.map (·.R))) else if 0<=ju (gZ (gT y) []).2 (jf (gZ (gT y) []).2 (y.map (·.R))) (y.map (·.R)) then(Bf,5,ju (gZ (gT y) []).2 (jf (gZ (gT y) []).2 (y.map (·.R))) (y.map (·.R))) else(Bt,0,0):=by unfold eK;rw[aB c,n,g,aB o]
   have S:=H A;have K:=aiD (gT y) [];have B:=My (gT y);have u:=H B;have q:(gZ (gT y) []).2.length<=1000:=(by simp at K;omega);have L:=H i.ai;have Q:=H i.mem;have EF:=i.bw;have r:b<0:=O;have N:=H (TR y);have V:=H (show y.map (·.R)=(bT s).1 by rw[g]);have T:=H (show(gZ (gT y) []).2=(bh s).2 by rw[n]);have v:=H x;clear M g x n A K B a o c i;go_wp2_with fail;refine(adI wr (F (X h)) y _ _ _ _ Q R).mono ?_;rintro e w2⟨rfl,_,_,x,a⟩;clear c0 c1 c2 c3 c4 c5 fz;generalize(gZ (gT y) []).1=n1 at*;generalize(gZ (gT y) []).2=n at*
   by_cases c:0<=n1
   .have i:=H (S.trans (aD c));clear S;go_wp2
    go_ret3
    exact⟨G,by rw[ag i];rfl,by rw[ag i];rfl,L.trans (a.mono O),C2 _ _ _⟩
   have i:=H (S.trans (aB c));have B:=ag u O;have g:=H B;have k:n1<0:=O;clear S c u;go_wp2_with fail;refine(anT w2 (F (X h)) y n n _ _ _ _ x).mono ?_;rintro e l⟨rfl,S⟩;have c:=x.kept ((ak.refl [] _).bC S) oS;have o:Below (F (X w)) w l:=(L.trans (a.mono O)).trans (S.mono (by have:=L.size;have:=a.size;omega));clear x a S L
   by_cases a:0<=iF (y.map (·.R))
   .have S:=H (i.trans (aD a));clear i;go_wp2
    go_ret3
    exact⟨G,by rw[ag S];rfl,by rw[ag S];rfl,o,C2 _ _ _⟩
   have S:=H (i.trans (aB a));have ap6:iF (y.map (·.R))<0:=O;clear i a;go_wp2_with fail;refine(aeU l (F (X h)) y n _ _ _ _ c q g).mono ?_;rintro e w4⟨rfl,i⟩;have A:=c.kept ((ak.refl [] _).bC i) oS;have u:Below (F (X w)) w w4:=o.trans (i.mono (oF o.size));clear c i
   by_cases i:0<=ju n (jf n (y.map (·.R))) (y.map (·.R))
   .have x:=H (S.trans (aD i));clear S;go_wp2
    go_ret3
    exact⟨G,by rw[ag x];rfl,by rw[ag x];rfl,u,C2 _ _ _⟩
   have x:=H (S.trans (aB i));obtain⟨f0,c,a⟩:=abh n (y.map (·.R)) (by rw[<-ag N];exact g) i;have ap7:ju n (jf n (y.map (·.R))) (y.map (·.R))<0:=O;have L:=H c;have K:=H a;clear S i c a;go_wp2_with fail;refine(ahG w4 (F (X h)) y n _ _ _ _ A q g f0 L (λi=>bf (K i) q)).mono ?_;rintro e m⟨rfl,S,W,j,E,i,d⟩;have c:=A.lt;go_wp2
   go_ret3
   refine⟨P (C (F (X h)) 0 G),by rw[ag x];rfl,by rw[ag x];rfl,u.trans (d.mono O),λa M=>?_⟩;injection M with M
   subst M;exact⟨_,y,n,_,_,_,_,S,rfl,O,c,W,j,E,i,V,T,by rw[<-ag v];exact g⟩
def ai2(s w)(b:800<s.size):Calls prog 79 #[Y s] w λe a=>∃y,e=Vr (Vt #[Vp y,I J (eK s).2.1,I J (eK s).2.2])/\y.isSome=(eK s).1/\Below (F (X w)) w a/\Ec s w y a:=by
 have a:(800:Int)<s.size:=O
 have e:eK s=(Bf,1,0):=by unfold eK;rw[aD b]
 have y:=H e;clear e;go_in
 go_wp2
 go_ret3
 exact⟨G,by rw[ag y];rfl,by rw[ag y];rfl,aZ _ _,C2 _ _ _⟩
def P6(s w):Calls prog 79 #[Y s] w λe h=>∃y,e=Vr (Vt #[Vp y,I J (eK s).2.1,I J (eK s).2.2])/\y.isSome=(eK s).1/\Below (F (X w)) w h/\Ec s w y h:=by
 rcases BE 800 s.size with h|h
 .exact ai2 s w h
 exact ai3 s w h
def al4(s w):Calls prog 79 #[Y s] w λe a=>∃y,e=Vr (Vt #[Vp y,I J (eK s).2.1,I J (eK s).2.2])/\y.isSome=(eK s).1/\Below (F (X w)) w a:=by refine(P6 s w).mono ?_;rintro e a⟨y,b,c,d,_⟩;exact⟨y,b,c,d⟩
def ais(a b c k d)(h:3<=Z d):(((gq [a,b,c] k++d).set (k*3) a).set (k*3+1) b).set (k*3+2) c=gq [a,b,c] (k+1)++d.drop 3:=by
 match d,h with
 |y0::y1::y2::r,_=>have e:(gq [a,b,c] k).length=k*3:=FT _ _;rw[G0 _ _ O,G0 _ _ O,G0 _ _ O,e,FQ];simp[gq]
variable {c d g k:Nat}{j:V9}{a i:W8}
def sZ.Ko{n}(h:sZ a b j n c d):∀g∈n.ownBlock.toList,g∈j.ownBlock.toList\/F (X a)<=g:=by
 intro g v;rcases h with⟨e,w,rfl,rfl,_,_⟩|⟨e,w,rfl,_,_,_⟩
 .exact .inl (by simpa[Value.ownBlock]using v)
 right
 have:g=e:=by simpa[Value.ownBlock]using v
 omega
variable {e:V8}{h:O8}
def mV.Ko{m}(n:mV a d m e h f c g j b):∀i∈j.ownBlock.toList,i∈(U h f c).ownBlock.toList\/F (X a)<=i:=by
 intro i w;rcases n.aC with k|⟨l,_⟩
 .left
  rw[k]at w
  cases h with
  |none=>simp[Value.ownBlock]at w
  |some h=>simpa[Value.ownBlock]using w
 exact .inr (l i (oU w))
structure vh(w:W8)(e:TypeId)(mk:V8)(m:MB)(w':W8):Prop where
 mark:pH w' e mk m
 kept:ak m.l.ownBlock.toList w w'
 rI:∀g∈m.kT,g∈m.l.ownBlock.toList\/F (X w)<=g
def vh.of{w0 m y w l B D}(L:ak (U h c d).ownBlock.toList a w0)(E:Lm w0 0 y e (U h c d) c){A r}(u:ak [] w0 A)(p:ak [] b r)(q:sZ A b (U h c d) (U w (c+1) g) c 1)(Q:Lm b 0 y e (U w (c+1) g) (c+1))(x:sZ r i (U h c d) (U l (c+2) k) c 2)(W:Lm i 0 y e (U l (c+2) k) (c+2))(z:mV i 0 y e h c d 64 (U B (c+64) D) m)(V:c<=1000)(T:f<=1000000000):vh a y e ⟨U h c d,U w (c+1) g,U l (c+2) k,U B (c+64) D,f⟩ m:=by
 have K:Lm A 0 y e (U h c d) c:=E.kept u oS;have N:=q.kept;have t:=x.kept;have R:Lm r 0 y e (U h c d) c:=(q.first O K Q).kept p oS;have v:Lm r 0 y e (U w (c+1) g) (c+1):=Q.kept p oS;obtain⟨M,o,_⟩:=z.akY;have S:=E.cap;have q1:Lm m 0 y e (U w (c+1) g) (c+1):=q.JB O K v (t.trans z.kept) o O;have q2:Lm m 0 y e (U l (c+2) k) (c+2):=x.JB O R W z.kept o O;have q0:Lm m 0 y e (U h c d) c:=by
  by_cases n:0<M
  .exact o.pre O n
  have s:c=0:=O
  have j:M=0:=O
  subst s j;exact o
 have s:=L.size;have sa:=u.size;have s1:=N.size;have sb:=p.size;have s2:=t.size;refine⟨⟨T,c,V,q0,q1,q2,z.lm⟩,(L.trans ((u.mono oS).trans (N.trans ((p.mono oS).trans (t.trans z.kept))))),λj n=>?_⟩;simp only[MB.kT,aS]at n;rcases n with((n|n)|n)|n
 .exact .inl n
 .exact(q.Ko j n).imp id O
 .exact(x.Ko j n).imp id O
 exact(z.Ko j n).imp id O
def Mm(w:W8)(e0:TypeId)(mk:V8)(a:O8)(n cap mark:Nat):Ending->W8->Prop:=λe w'=>
 ∃(a1 a2 a3:O8)(c1 c2 c3:Nat),e=Vr (Va #[U a n cap,U a1 (n+1) c1,U a2 (n+2) c2,U a3 (n+64) c3,I J mark])/\vh w e0 mk ⟨U a n cap,U a1 (n+1) c1,U a2 (n+2) c2,U a3 (n+64) c3,mark⟩ w'
def pW{w0 l}(w:Ow a 0 l d (U h f c) f e){o}(n:w0.heap[g]?=P o)(j:F (X a)<=g)(k:ak (U h f c).ownBlock.toList w0 b):b.heap[g]?=P o:=by rw[k.block g (aM.1 n).1 (λi=>by have:=(w.lt g (oU i)).2;omega)];exact n
def C1(a n):gq a (n+1)=gq a n++a:=by rw[FQ];simp[gq]
def Qd(a n):gq a (n+2)=gq a n++(a++a):=by rw[FQ];simp[gq]
def O1(b):∀u∈iN b,u.oneCell'=true:=by intro u a;simp[iN]at a;rcases a with rfl|rfl|rfl<;>rfl
def ait(a):∀u∈iN a++iN a,u.oneCell'=true:=by intro u b;rcases aS.1 b with h|h<;>exact O1 a u h
def mV.OK{w}(n:mV a d w e h f c g j b)(k:ak [] b i):mV a d w e h f c g j i:=
 ⟨n.lm.kept k oS,n.kept.trans (k.mono oS),n.aC.imp id λx=>⟨x.1,x.2.kept k oS⟩⟩
def vh.zm{d m}(h:vh a d e m b){x}(k:ak [x] b i)(g:F (X a)<=x)(f:er b d x):vh a d e m i:=
 ⟨h.mark.kept k (λy w=>.inl (by rw[bu.1 w];exact f)),h.kept.step k (λy w=>.inr (by rw[bu.1 w];exact g)),h.rI⟩
structure D6(w wA:W8)(mk:Nat)(a:O8)(n cap k:Nat)(wr:W8):Prop where
 row:∃ys,Z ys=(n-k)*3/\Ow wr 0 185 3 (U a n cap) n (gq (iN mk) k++ys)
 kept:ak (U a n cap).ownBlock.toList wA wr
def D6.step(h:D6 a b c (P (C g 0 G)) d f k i)(m:k<d):D6 a b c (P (C g 0 G)) d f (k+1) (Sc (Sc (Sc i (C g (k*3) G) (Y ⟨#[]⟩)) (C g (k*3+1) G) (I J (-1000-(c:Int)))) (C g (k*3+2) G) (I J 0)):=by
 obtain⟨wr,l,j⟩:=h.row;have w:=lI (lI (lI j (k*3) (Y ⟨#[]⟩)) (k*3+1) (I J (-1000-(c:Int)))) (k*3+2) (I J 0);have e:=ais (Y ⟨#[]⟩) (I J (-1000-(c:Int))) (I J 0) k wr O;refine⟨⟨wr.drop 3,by rw[so,l];omega,?_⟩,?_⟩
 .rw[show iN c=[Y ⟨#[]⟩,I J (-1000-(c:Int)),I J 0] from rfl]at w⊢;rw[e]at w;exact w
 have n:g∈(U (P (C g 0 G)) d f).ownBlock.toList:=by simp[Value.ownBlock]
 exact((h.kept.setCell (p:=(C g _ G)) (.inl n) _).setCell (p:=(C g _ G)) (.inl n) _).setCell (p:=(C g _ G)) (.inl n) _
def ajC(w a)(n c b:Nat)(xs)(h:Ow w 0 185 3 (U a n c) n xs)(hn:n<=1000)(vH:b<=1000000000):Calls prog 137 #[U a n c,I J b] w (Mm w 185 (iN b) a n c b):=by
 obtain⟨i0,hi,v,x,y⟩:=info_parts OG;have q:=H h;have d:D6 w (Al (Al w (Vc #[U G 0 0,U G 0 0,U G 0 0,U G 0 0,I J 0] 120)) (Vc #[Y ⟨#[]⟩,I J (-1000-(b:Int)),I J 0] 185)) b a n c 0 (Al (Al w (Vc #[U G 0 0,U G 0 0,U G 0 0,U G 0 0,I J 0] 120)) (Vc #[Y ⟨#[]⟩,I J (-1000-(b:Int)),I J 0] 185)):=⟨⟨xs,h.1,(h.alloc _).alloc _⟩,ak.refl _ _⟩;have t:=H (((ak.refl (U a n c).ownBlock.toList w).alloc (Vc #[U G 0 0,U G 0 0,U G 0 0,U G 0 0,I J 0] 120)).alloc (Vc #[Y ⟨#[]⟩,I J (-1000-(b:Int)),I J 0] 185));have l:Hid ((Al (Al w (Vc #[U G 0 0,U G 0 0,U G 0 0,U G 0 0,I J 0] 120)) (Vc #[Y ⟨#[]⟩,I J (-1000-(b:Int)),I J 0] 185)).heap[F (X w)+1]?=P (Vc #[Y ⟨#[]⟩,I J (-1000-(b:Int)),I J 0] 185)):=by have:=aG (Al w (Vc #[U G 0 0,U G 0 0,U G 0 0,U G 0 0,I J 0] 120)) (Vc #[Y ⟨#[]⟩,I J (-1000-(b:Int)),I J 0] 185);rw[bL]at this;exact this
 have p:Hid ((Al (Al w (Vc #[U G 0 0,U G 0 0,U G 0 0,U G 0 0,I J 0] 120)) (Vc #[Y ⟨#[]⟩,I J (-1000-(b:Int)),I J 0] 185)).heap[F (X w)]?=P (Vc #[U G 0 0,U G 0 0,U G 0 0,U G 0 0,I J 0] 120)):=by
  show _=_
  rw[aW _ _ _ oS];exact aG w _
 clear h;go_in;go_wp2_with fail;generalize i:(Al (Al w (Vc #[U G 0 0,U G 0 0,U G 0 0,U G 0 0,I J 0] 120)) (Vc #[Y ⟨#[]⟩,I J (-1000-(b:Int)),I J 0] 185))=wA at*;clear i
 go_loopg [6] n (λgg i wr=>∃k:Nat,k<=n/\gg=n-k/\i=I J k/\D6 w wA b a n c k wr)
 exact⟨0,aI _,rfl,rfl,d⟩
 case round=>
  clear d;obtain⟨k,_,_,rfl,d⟩:=hrel;have e:=pW q l O d.kept;obtain⟨x0,W⟩:=aj e 0;obtain⟨x1,V⟩:=aj e 1;obtain⟨x2,Ro⟩:=aj e 2;have m:=(aM.1 e).1
  by_cases gA:k<n
  .obtain⟨ys,hy,h⟩:=d.row;obtain⟨g,_,f,_,_⟩:=h.form O;injection f with r T j
   subst r j;have D:=(q.lt g rfl).2;have r:=CV h;have j:=PH h;obtain⟨_,_⟩:=j (k*3) O;obtain⟨_,c1⟩:=j (k*3+1) O;obtain⟨_,c2⟩:=j (k*3+2) O;have u:=JO h;have HO:=H (d.step gA);have Q:=r (k*3);have L:=r (k*3+1);have N:=r (k*3+2);have M:¬g=F (X w)+1:=O;have K:¬(F (X w))+1=g:=O;clear h d e j r hy;go_wp2;go_roundg(n-(k+1));exact⟨k+1,O,rfl,oN,HO⟩;omega
  have g:k=n:=O
  subst g;have g:Lm wr 0 185 (iN b) (U a k c) k:=by obtain⟨ys,hy,h⟩:=d.row;have:ys=[]:=wK (by rw[hy];omega);subst this;rw[kO]at h;exact h
  have r:=H g;have K:=H (t.trans d.kept);have D:=pW q p O d.kept;have u:=H D;have M:=H e;clear g d e D t l p;go_wp2_with(at_builtin;refine xS _ rfl _ _ 118 rfl 0 185 i0 _ 3 32 underlying118 hi v x y rfl oD a k c (gq (iN b) k) rfl (r.alloc _) (C (F (X wr)) 0 G) 1 1 (iN b) rfl rfl (World.news_of_block (aG wr _)) (O1 b) oD oM O (aI _) ?_);intro a1 c1 D d g;have t:Lm D 0 185 (iN b) (U a1 (k+1) c1) (k+1):=by unfold Lm;rw[C1];exact d
  have p:=((ak.refl [] wr).alloc (Vc #[Y ⟨#[]⟩,I J (-1000-(b:Int)),I J 0] 185));have l:(Al wr (Vc #[Y ⟨#[]⟩,I J (-1000-(b:Int)),I J 0] 185)).heap[F (X w)+1]?=_:=(p.block _ m oS).trans M;have f:(Al wr (Vc #[Y ⟨#[]⟩,I J (-1000-(b:Int)),I J 0] 185)).heap[F (X w)]?=_:=(p.block _ O oS).trans u;have j:=pW q l O g.kept;have T:=pW q f O g.kept;have Q:=g.first O (r.kept p oS) t;have L:=H t;have N:=H g;have E:=H Q;have S:=H j;have R:=H T;have s:=H p;have o:=(aM.1 j).1;obtain⟨y0,z⟩:=aj j 0;obtain⟨y1,A⟩:=aj j 1;obtain⟨y2,B⟩:=aj j 2;clear d g t Q j T l f x0 x1 x2 W V Ro p M u;go_wp2_with(at_builtin;refine xS _ rfl _ _ 118 rfl 0 185 i0 _ 3 32 underlying118 hi v x y rfl oD a k c (gq (iN b) k) rfl (E.alloc _) (C (F (X D)) 0 G) 2 2 (iN b++iN b) rfl rfl (World.news_of_block (aG D _)) (ait b) oD oM O (aI _) ?_);intro a2 c2 W g j;have u:Lm W 0 185 (iN b) (U a2 (k+2) c2) (k+2):=by unfold Lm;rw[Qd];exact g
  have p:=((ak.refl [] D).alloc (Vc #[Y ⟨#[]⟩,I J (-1000-(b:Int)),I J 0,Y ⟨#[]⟩,I J (-1000-(b:Int)),I J 0] 185));have l:(Al D (Vc #[Y ⟨#[]⟩,I J (-1000-(b:Int)),I J 0,Y ⟨#[]⟩,I J (-1000-(b:Int)),I J 0] 185)).heap[F (X w)+1]?=_:=(p.block _ o oS).trans S;have f:(Al D (Vc #[Y ⟨#[]⟩,I J (-1000-(b:Int)),I J 0,Y ⟨#[]⟩,I J (-1000-(b:Int)),I J 0] 185)).heap[F (X w)]?=_:=(p.block _ O oS).trans R;have V:=pW q l O j.kept;have T:=pW q f O j.kept;have t:=j.first O (E.kept p oS) u;have M:=H u;have Q:=H j;have Lq:=H V;have HR2:=H T;have d:=H p;have Dk:=H t;have g0:mV W 0 185 (iN b) a k c 0 (U a k c) W:=⟨t,ak.refl _ _,.inl rfl⟩;clear g j u V T l f y0 y1 y2 z A B p t S R m o;go_wp2_with fail;have t:=H (λ(o:O8)(p:Nat)(S:W8)(R:mV W 0 185 (iN b) a k c 64 (U o (k+64) p) S)=>vh.of K r s d N L Q M R hn vH);clear K r s d N L Q M
  go_loopg [9,10] 64 (λgg M i Q=>∃(j:Nat)(o:O8)(p:Nat),j<=64/\gg=64-j/\M=U o (k+j) p/\i=I J j/\mV W 0 185 (iN b) a k c j (U o (k+j) p) Q)
  exact⟨0,a,c,aI _,rfl,rfl,rfl,g0⟩
  case round=>
   clear g0;obtain⟨j,o,p,_,_,rfl,rfl,g⟩:=hrel;have e:=pW q Lq O g.kept;have s:=pW q HR2 O g.kept;have m:=(aM.1 e).1;have L:=H g
   by_cases K:j<64
   .obtain⟨y0,z⟩:=aj e 0;obtain⟨y1,A⟩:=aj e 1;obtain⟨y2,B⟩:=aj e 2;clear e s g;go_wp2_with(at_builtin;refine xS _ rfl _ _ 118 rfl 0 185 i0 _ 3 32 underlying118 hi v x y rfl oD o (k+j) p (gq (iN b) (k+j)) rfl (L.lm.alloc _) (C (F (X wr)) 0 G) 1 1 (iN b) rfl rfl (World.news_of_block (aG wr _)) (O1 b) oD oM O (aI _) ?_);intro N r f d i;have M:Lm f 0 185 (iN b) (U N (k+j+1) r) (k+j+1):=(by unfold Lm;rw[C1];exact d);have Q:=H ((L.OK ((ak.refl [] wr).alloc _)).one Dk i M);clear d i M y0 y1 y2 z A B;go_wp2;go_roundg(64-(j+1));exact⟨j+1,N,r,O,rfl,rfl,oN,Q⟩;omega
   have B:j=64:=O;subst B;have HO:=H (t o p wr g);have B:=H (rX s (show(120:TypeId)≠185 by decide));obtain⟨r,_⟩:=aj s 0;obtain⟨N,_⟩:=aj s 1;obtain⟨Q,_⟩:=aj s 2;obtain⟨A,_⟩:=aj s 3;obtain⟨z,_⟩:=aj s 4;clear e s g t q;go_wp2_with fail;refine bN (v:=Va #[U a k c,U a1 (k+1) c1,U a2 (k+2) c2,U o (k+64) p,I J b]) (by simp[results,results137,go_sem,r,N,Q,A,z]) rfl ?_;refine⟨a1,a2,o,c1,c2,p,rfl,HO.zm (x:=F (X w)) ?_ L9 B⟩;have q:(F (X w))∈[F (X w)]:=bu.2 rfl;exact(((((ak.refl _ wr).setCell (p:=(C (F (X w)) 0 G)) (.inl q) _).setCell (p:=(C (F (X w)) 1 G)) (.inl q) _).setCell (p:=(C (F (X w)) 2 G)) (.inl q) _).setCell (p:=(C (F (X w)) 3 G)) (.inl q) _).setCell (p:=(C (F (X w)) 4 G)) (.inl q) _
end Go.Proofs.YtldkpahaocjdpaaGreat
