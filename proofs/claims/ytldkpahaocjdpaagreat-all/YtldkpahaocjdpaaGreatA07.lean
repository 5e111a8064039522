/-
  Plain: numbers that keep to the rules (Valid), the least such (below every such), and how the strata lie in memory.
-/
import Derived.Test.YtldkpahaocjdpaaGreatA05
import Derived.Test.YtldkpahaocjdpaaGreatA06
set_option maxHeartbeats 16000000
set_option maxRecDepth 1000000
namespace Go.Proofs.YtldkpahaocjdpaaGreat
open Go.Value renaming slice->U,int->I,string->Y,bool->Vb,pointer->Vp,agg->Va,tuple->Vt
open Go.IntKind renaming i64->J
open Go.Ending renaming returned->Vr
open Go.Obj renaming cells->Vc
open _root_.Option renaming none->G,some->P
open _root_.Bool renaming true->Bt,false->Bf
open Go.Addr renaming mk->C
open _root_.List renaming length->Z
open Go.World renaming heap->X,alloc->Al,setCell->Sc,cell?->Ce,ownsRow->Ow
open _root_.Array renaming size->F
open Go.Proofs.Tryz
set_option linter.defProp false
open Go.RowKit
def sn(ps:P9)(f:Nat->Nat)(hd:B8)(A:aR):Prop:=f (bH ps A.ax)+(if A.no then 1 else 0)<=f (bH ps hd)
def kQ(ps:P9)(rs:List bg)(f:Nat->Nat):Prop:=∀R∈rs,∀A∈R.body,sn ps f R.ay.ax A
def oe(ps:P9)(rs:List bg)(S:Nat->Nat):Prop:=∀f,kQ ps rs f->∀i,S i<=f i
def gz(S:Nat->Nat)(i v:Nat):Nat->Nat:=λa=>if a=i then v else S a
def mD(S:Nat->Nat):Nat->Nat
 | 0=>0
 |n+1=>mD S n+S n
def QO{S T:Nat->Nat}(h:∀i,S i<=T i):∀n,mD S n<=mD T n
 | 0=>bD _
 |n+1=>by have:=QO h n;have:=h n;simp only[mD];omega
def QP{S:Nat->Nat}{i v:Nat}(c:S i<v):∀n,i<n->mD S n<mD (gz S i v) n
 | 0,h=>by omega
 |n+1,h=>by
  simp only[mD]
  by_cases e:i=n
  .subst e;have b:mD S i<=mD (gz S i v) i:=QO (λa=>by unfold gz;split;rename_i e;subst e;omega;exact bD _) i;have e:gz S i v i=v:=(by simp[gz]);omega
  have b:=QP c n O;have e:gz S i v n=S n:=by unfold gz;rw[aB O]
  omega
variable {b:P9}{d:List bg}
def aif{S}(h:oe b d S){R}(g:R∈d){A}(c:A∈R.body):oe b d (gz S (bH b R.ay.ax) (S (bH b A.ax)+(if A.no then 1 else 0))):=by
 intro f a i;unfold gz
 split
 .rename_i e;subst e;have e:=a R g A c;have j:=h f a (bH b A.ax);unfold sn at e;omega
 exact h f a i
structure jW(w:W8)(gs n:Nat)(S:Nat->Nat):Prop where
 sz:gs<F (X w)
 cell:∀i,i<n->Ce w (C gs i G)=P (I J (S i))
 fz:∀j,w.frozen? (C gs j G)=Bf
variable {a e:Nat}{c f:W8}
def jW.kept{S}(h:jW c a e S)(k:ak [] c f):jW f a e S:=
 ⟨iz h.sz k.size,λi j=>(k.cell (p:=(C a i G)) h.sz oS).trans (h.cell i j),λj=>(k.frozen (p:=(C a j G)) h.sz oS).trans (h.fz j)⟩
def jW.set{b S}(h:jW c b a S)(i v:Nat)(d:i<a):jW (Sc c (C b i G) (I J v)) b a (gz S i v):=by
 refine⟨by simpa using h.sz,λn w=>?_,λj=>by simpa using h.fz j⟩
 by_cases e:n=i
 .subst e;rw[z6 (h.cell n w)];simp[gz]
 rw[tH O,h.cell n w];simp[gz,e]
def Fw(n:Nat)(f:n<=1000)(u):(Instr.makeSlice 24 (I J n) (I J n)).run prog u=.ok (U (some (C (F (X u)) 0 G)) n n) (u.alloc (Vc (madeCells #[I J 0] n) 3)):=by obtain⟨e,d,a,b,c⟩:=info_parts Fi;have h:=DX (P:=prog) u 24 3 e (I J 0) underlying24 d a J J (n:Int) (n:Int) O (DJ _) (by rw[c];omega) O;simpa[b,Value.cells]using h
def jW.start(w n):jW (Al w (Vc (madeCells #[I J 0] n) 3)) (F (X w)) n (λ_=>0):=
 ⟨oS,λi j=>by rw[World.cell?_alloc_at _ _ _ _ rfl,Jb _ _ _ j];rfl,λj=>by rw[World.frozen?_alloc_at _ _ _ _ rfl]⟩
variable {g:List RR}
def kc.gz{f i d k l}(h:kc c a g b f i d k l)(o):kc (Sc c (C a 3 G) o) a g b f i d k o:=by
 have w:∀{e:TypeId} {size:Nat} {v:V9} {n:Nat} {xs:V8},Ow c (a+1) e size v n xs->Ow (Sc c (C a 3 G) o) (a+1) e size v n xs:=λe=>fh e oS _
 exact⟨by simpa using h.lt,by rw[tH O];exact h.c0,by rw[tH O];exact h.c1,by rw[tH O];exact h.c2,z6 h.c3,λj=>by simpa using h.fz j,w h.bB,λr j=>⟨w (h.aK r j).hd,w (h.aK r j).bo,λx e=>w ((h.aK r j).bl x e),(h.aK r j).eq⟩,w h.oE,w h.aq⟩
def anY{S}(d:a<Z g)(h:kQ b ((g.map (·.R)).take a) S)(c:∀A∈g[a].R.body,sn b S g[a].R.ay.ax A):kQ b ((g.map (·.R)).take (a+1)) S:=by
 intro R A;rw[jr (oU d)]at A;rcases aS.1 A with A|A
 .exact h R A
 simp at A;subst A;exact c
def X9{d:List (aR×V9)}{S c}(f:a<Z d)(h:∀A∈(d.map (·.1)).take a,sn b S c A)(e:sn b S c d[a].1):∀A∈(d.map (·.1)).take (a+1),sn b S c A:=by
 intro A j;rw[jr (oU f)]at j;rcases aS.1 j with j|j
 .exact h A j
 simp at j;subst j;exact e
structure uZ(w1:W8)(a n:Nat)(ps:P9)(rs:List bg)(S:Nat->Nat)(wr:W8):Prop where
 ai:Below a w1 wr
 row:jW wr a n S
 dS:oe ps rs S
def uZ.kept{S n}(h:uZ c a e b d S f)(k:Below (F (X f)) f n):uZ c a e b d S n:=
 ⟨h.ai.trans (k.mono (oF h.row.sz)),h.row.kept ((ak.refl [] _).bC k),h.dS⟩
def uZ.set{b S}(h:uZ c a e b d S f){R}(wr:R∈d){A}(n:A∈R.body)(g:bH b R.ay.ax<e):uZ c a e b d (gz S (bH b R.ay.ax) (S (bH b A.ax)+(if A.no then 1 else 0))) (Sc f (C a (bH b R.ay.ax) G) (I J ((S (bH b A.ax)+(if A.no then 1 else 0):Nat)))):=
 ⟨h.ai.setCell L9 _,h.row.set _ _ g,aif h.dS wr n⟩
def ahG(w o c a rv pv tv sv)(h:kC w o c a rv pv tv sv)(hn:Z a<=1000)(k:OU a (gT c))(B)(A:kQ a (c.map (·.R)) B)(T:∀i,B i<=1000):Calls prog 129 #[Vp (P (C o 0 G))] w λe n=>e=Vr (Vt #[])/\∃S,kC n o c a rv pv tv (U (P (C (F (X w)) 0 G)) (Z a) (Z a))/\jW n (F (X w)) (Z a) S/\kQ a (c.map (·.R)) S/\oe a (c.map (·.R)) S/\Below o w n:=by
 obtain⟨_,_,rfl⟩:=aF h.bB;obtain⟨_,_,rfl⟩:=aF h.oE;have rQ:=ej h.bB;unfold maxLen at rQ;have W:=Fw (Z a) hn;have mM:=h.lt;have l:=h.c1;have c3:=h.c3;have x:=h.fz 3;have n:=h.gz (U (P (C (F (X w)) 0 G)) (Z a) (Z a));have v:Below o w (Sc w (C o 3 G) (U (P (C (F (X w)) 0 G)) (Z a) (Z a))):=(aZ o w).setCell (p:=(C o 3 G)) L9 _;have b:(Sc w (C o 3 G) (U (P (C (F (X w)) 0 G)) (Z a) (Z a))).heap.size=F (X w):=oS
 have R:uZ (Sc w (C o 3 G) (U (P (C (F (X w)) 0 G)) (Z a) (Z a))) (F (X w)) (Z a) a (c.map (·.R)) (λ_=>0) (Al (Sc w (C o 3 G) (U (P (C (F (X w)) 0 G)) (Z a) (Z a))) (Vc (madeCells #[I J 0] (Z a)) 3)):=by
  refine⟨B9.alloc O _,?_,λf _ i=>aI _⟩;have:=jW.start (Sc w (C o 3 G) (U (P (C (F (X w)) 0 G)) (Z a) (Z a))) (Z a)
  rwa [b]at this
 have f:=H R;have H1:=H n;have HA:=H k;have A7:=H v;have K:=H b;have D:=H A;clear h n k R v b A;go_in;go_wp2_with fail;clear W l c3 x
 go_loopg [2,3,4,5,6,7] (mD B (Z a)+1) (λv A R i x W l wr=>∃(b:Bool)(S:Nat->Nat),A=Vb b/\(if b then mD B (Z a)-mD S (Z a)+1 else 0)<=v/\uZ (Sc w (C o 3 G) (U (P (C (F (X w)) 0 G)) (Z a) (Z a))) (F (X w)) (Z a) a (c.map (·.R)) S wr/\(b=Bf->kQ a (c.map (·.R)) S))
 exact⟨Bt,λ_=>0,rfl,oS,f,oS⟩
 case round=>
  clear f;obtain⟨b,M,rfl,V,h,f⟩:=hrel
  cases b with
  |false=>have d:=H (f rfl);clear f;go_wp2;go_end0;have hk:=h.ai;have k:Below (Sc w (C o 3 G) (U (P (C (F (X w)) 0 G)) (Z a) (Z a))).heap.size (Sc w (C o 3 G) (U (P (C (F (X w)) 0 G)) (Z a) (Z a))) wr:=(by rw[ag K];exact hk);exact⟨rfl,H1.kept ((ak.refl [] _).bC k) oS,M,h.row,d,h.dS,A7.trans (hk.mono O)⟩
  |true=>
   clear f;go_wp2
   go_loopg [2,3,4,5,6,7] (Z c) (λv A R i x W l wr=>∃(b:Bool)(S:Nat->Nat)(k:Nat),A=Vb b/\k<=Z c/\v=Z c-k/\R=I J k/\uZ (Sc w (C o 3 G) (U (P (C (F (X w)) 0 G)) (Z a) (Z a))) (F (X w)) (Z a) a (c.map (·.R)) S wr/\mD M (Z a)<=mD S (Z a)/\(b=Bt->mD M (Z a)<mD S (Z a))/\(b=Bf->kQ a ((c.map (·.R)).take k) S))
   exact⟨Bf,M,0,rfl,aI _,rfl,rfl,h,bD _,oS,λ_=>by intro R hR;simp at hR⟩
   case round=>
    clear h;obtain⟨b,S,k,rfl,hk,_,rfl,h,d,p,f⟩:=hrel;have z:Below (Sc w (C o 3 G) (U (P (C (F (X w)) 0 G)) (Z a) (Z a))).heap.size (Sc w (C o 3 G) (U (P (C (F (X w)) 0 G)) (Z a) (Z a))) wr:=(by rw[ag K];exact h.ai);have m:=H1.kept ((ak.refl [] _).bC z) oS;have c0:=m.c0
    by_cases g:k<Z c
    .obtain⟨_,_,hv,_,i,_,_,q0,q1,q2,q3,q4,E⟩:=pT m.bB k g;injection hv with n h2 y
     subst n y;have s:=m.aK _ (aN g);obtain⟨_,_,L⟩:=aF s.bo;have Q:=ej s.bo;unfold maxLen at Q;rw[L]at E;have q:=s.eq;have hx0:=Mx HA g;have Fb:aL a c[k].R.ay.ax<Z a:=(oF (mS hx0));have r:=H (λnm=>sP wr o c a _ _ _ _ nm m);clear h2 m;go_wp2_with fail;refine(r _).mono ?_;rintro e w1⟨rfl,rfl⟩;clear r;go_wp2
     go_loopg [2,5,6,7] c[k].bs.length (λv A x W l wr=>∃(b:Bool)(S:Nat->Nat)(j:Nat),A=Vb b/\j<=c[k].bs.length/\v=c[k].bs.length-j/\x=I J j/\uZ (Sc w (C o 3 G) (U (P (C (F (X w)) 0 G)) (Z a) (Z a))) (F (X w)) (Z a) a (c.map (·.R)) S wr/\mD M (Z a)<=mD S (Z a)/\(b=Bt->mD M (Z a)<mD S (Z a))/\(b=Bf->kQ a ((c.map (·.R)).take k) S/\∀A∈(c[k].bs.map (·.1)).take j,sn a S c[k].R.ay.ax A))
     exact⟨b,S,0,rfl,aI _,rfl,rfl,h,d,p,λe=>⟨f e,oS⟩⟩
     case round=>
      clear h d p f c0 q0 q1 q2 q3 q4 E s i z;obtain⟨b,S,j,rfl,_,_,rfl,h,d,p,f⟩:=hrel;have z:Below (Sc w (C o 3 G) (U (P (C (F (X w)) 0 G)) (Z a) (Z a))).heap.size (Sc w (C o 3 G) (U (P (C (F (X w)) 0 G)) (Z a) (Z a))) wr:=(by rw[ag K];exact h.ai);have m:=H1.kept ((ak.refl [] _).bC z) oS;have c0:=m.c0;have c3:=m.c3;have x:=m.lt;obtain⟨_,_,xw,_,i,_,_,q0,q1,q2,q3,q4,E⟩:=pT m.bB k g;injection xw with n h2 y
      injection n with n
      injection n with n
      subst n y;have s:=m.aK _ (aN g);rw[L]at E
      by_cases n:j<c[k].bs.length
      .obtain⟨_,_,W,_,y,_,_,p0,p1,p2,p3,p4⟩:=qx s.bo j n;rw[L]at W;injection W with v l N
       subst v N;obtain⟨N,v,t⟩:=aF (s.bl _ (aN n));rw[t]at p1;have Fg:=Mw HA g q n;have CA:aL a c[k].bs[j].1.ax<Z a:=(oF (mS Fg));have hrs:=h.row.sz;have t1:=h.row.cell (aL a c[k].bs[j].1.ax).toNat O;have hSb:S (aL a c[k].bs[j].1.ax).toNat<=1000:=bf (h.dS B D _) (T _);have r:=H (λnm A (u:Below (F (X wr)) wr A)=>sP A o c a _ _ _ _ nm (m.kept ((ak.refl [] _).bC u) oS));have HM:=H m;clear h2 m s l;go_upto_region 12 with fail
       go_cut [7] (λs wc=>s=I J (S (aL a c[k].bs[j].1.ax).toNat)/\Below (Al wr (Vc #[Y c[k].bs[j].1.ax,U N c[k].bs[j].1.aq.length v,Vb c[k].bs[j].1.no,I J c[k].bs[j].1.aC,I J c[k].bs[j].1.aO] 243)).heap.size (Al wr (Vc #[Y c[k].bs[j].1.ax,U N c[k].bs[j].1.aq.length v,Vb c[k].bs[j].1.no,I J c[k].bs[j].1.aC,I J c[k].bs[j].1.aO] 243)) wc)
       case first=>
        go_region_with(go_at_call 135;refine(r _ _ (oA.drew)).mono ?_;rintro e w1⟨rfl,rfl⟩)
        all_goals
         go_wp2;go_meet
         case rel=>exact⟨rfl,B9.drew⟩
       case rest=>
        obtain⟨rfl,l⟩:=hcut;have u:Below (F (X wr)) wr wc:=oA.trans (l.mono oS);have s:=h.kept u;have A:=HM.kept ((ak.refl [] _).bC u) oS;have d3:=A.c3;have d2:Ce wc (C (F (X wr)) 2 G)=P (Vb c[k].bs[j].1.no):=(l.cell (p:=(C (F (X wr)) 2 G)) oS).trans (by rw[World.cell?_alloc_at _ _ _ _ rfl];rfl);have t2:=s.row.cell (aL a c[k].R.ay.ax).toNat O;have t3:=s.row.fz (aL a c[k].R.ay.ax).toNat;have hSh:S (aL a c[k].R.ay.ax).toNat<=1000:=bf (h.dS B D _) (T _);have sH:=A.lt;have Xk:=s.row.sz;clear r HM A l u h t1 c0 c3 q0 q1 q2 q3 q4 E p0 p1 p2 p3 p4 i y t x hrs
        cases r:c[k].bs[j].1.no with
        |true=>
         rw[r]at d2
         by_cases i:S (aL a c[k].R.ay.ax).toNat<S (aL a c[k].bs[j].1.ax).toNat+1
         .have A:=s.set (R:=c[k].R) (aU.2 ⟨_,aN g,rfl⟩) (A:=c[k].bs[j].1) (by rw[q];exact aU.2 ⟨_,aN n,rfl⟩) (by unfold bH;omega);have l:=QP (S:=S) (i:=(aL a c[k].R.ay.ax).toNat) (v:=S (aL a c[k].bs[j].1.ax).toNat+1) i (Z a) O;rw[r]at A;simp only[lM,bH,Int.natCast_add,Int.cast_ofNat_Int]at A;have u:=H A;have t:=H l;have y:(S (aL a c[k].R.ay.ax).toNat:Int)<(S (aL a c[k].bs[j].1.ax).toNat:Int)+1:=O;clear A l i;go_wp2;go_roundg(c[k].bs.length-(j+1));exact⟨Bt,_,j+1,rfl,O,rfl,oN,u,by have:=ag t;omega,λ_=>by have:=ag t;omega,oS⟩;omega
         have x:sn a S c[k].R.ay.ax c[k].bs[j].1:=(by unfold sn bH;rw[r];simp;omega);have E:=H x;have y:¬(S (aL a c[k].R.ay.ax).toNat:Int)<(S (aL a c[k].bs[j].1.ax).toNat:Int)+1:=O;clear x i;go_wp2;go_roundg(c[k].bs.length-(j+1));exact⟨b,S,j+1,rfl,O,rfl,oN,s,d,p,λe=>⟨(f e).1,X9 n (f e).2 E⟩⟩;omega
        |false=>
         rw[r]at d2
         by_cases i:S (aL a c[k].R.ay.ax).toNat<S (aL a c[k].bs[j].1.ax).toNat
         .have A:=s.set (R:=c[k].R) (aU.2 ⟨_,aN g,rfl⟩) (A:=c[k].bs[j].1) (by rw[q];exact aU.2 ⟨_,aN n,rfl⟩) (by unfold bH;omega);have l:=QP (S:=S) (i:=(aL a c[k].R.ay.ax).toNat) (v:=S (aL a c[k].bs[j].1.ax).toNat) i (Z a) O;rw[r]at A;simp only[pG,qi,bH,iy]at A;have u:=H A;have t:=H l;have y:(S (aL a c[k].R.ay.ax).toNat:Int)<(S (aL a c[k].bs[j].1.ax).toNat:Int):=O;clear A l i;go_wp2;go_roundg(c[k].bs.length-(j+1));exact⟨Bt,_,j+1,rfl,O,rfl,oN,u,by have:=ag t;omega,λ_=>by have:=ag t;omega,oS⟩;omega
         have x:sn a S c[k].R.ay.ax c[k].bs[j].1:=(by unfold sn bH;rw[r];simp;omega);have E:=H x;have y:¬(S (aL a c[k].R.ay.ax).toNat:Int)<(S (aL a c[k].bs[j].1.ax).toNat:Int):=O;clear x i;go_wp2;go_roundg(c[k].bs.length-(j+1));exact⟨b,S,j+1,rfl,O,rfl,oN,s,d,p,λe=>⟨(f e).1,X9 n (f e).2 E⟩⟩;omega
      clear h2 m;go_wp2;go_roundg(Z c-(k+1));exact⟨b,S,k+1,rfl,O,rfl,oN,h,d,p,λe=>anY g (f e).1 (by rw[q];have:=(f e).2;rwa [j7 oT]at this)⟩;omega
    have j:(c.map (·.R)).take k=c.map (·.R):=j7 oT;clear m;go_wp2;go_roundg(if b then mD B (Z a)-mD S (Z a)+1 else 0)
    case measure=>
     have m:=QO (h.dS B D) (Z a)
     cases b with
     |false=>simp at V⊢;omega
     |true=>have:=p rfl;simp at V⊢;omega
    case rel=>exact⟨b,S,rfl,bD _,h,λe=>by have:=f e;rwa [j]at this⟩
def iD(s:B8)(p:Nat)(bd:Int)(n:Nat):Int:=if n==30 then kq s p bd else bd
def pS(s:B8)(p:Nat)(bd:Int):bg:=⟨jZ s p bd,(ko s p bd).1⟩
def pj(s:B8)(p:Nat)(bd:Int):Bool:=(az s p).kind != 46&&decide (bd<0)
def pz(s:B8):Nat->Nat->Int->List bg->List bg×Nat×Int
 | 0,p,bd,l=>(l,p,bd)
 |f+1,p,bd,l=>if pj s p bd then pz s f (uQ s p (iD s p bd (Z l))) (nT s p (iD s p bd (Z l))) (l++[pS s p (iD s p bd (Z l))]) else(l,p,bd)
variable {a:B8}
def aee(f):∀{p:Nat} {s:Int} {l:List aR},0<=s->0<=(lO a f p s l).2.2:=by
 induction f with
 |zero=>intro p s l h;exact h
 |succ f d=>
  intro p s l h;have c:0<=dK a p s (Z l):=by
   unfold dK;split
   .exact xi _ _ _
   exact h
  have b:=Yq (s:=a) (p:=p) c;rw[lO]
  split
  .exact d (yP b)
  exact yP b
variable {c:Int}{b:Nat}
def alG(h:0<=c):0<=nT a b c:=by
 have s:=TQ (s:=a) (p:=b) h;unfold nT;refine AO (Y8 ?_);unfold ko;split
 .exact aee 4 (yP s)
 exact yP s
def alK(s p a l)(h:Z l<=30)(d:pj s p a=Bt):pz s (31-Z l) p a l=pz s (31-(l++[pS s p (iD s p a (Z l))]).length) (uQ s p (iD s p a (Z l))) (nT s p (iD s p a (Z l))) (l++[pS s p (iD s p a (Z l))]):=by
 have b:31-Z l=(30-Z l)+1:=O
 have c:31-(l++[pS s p (iD s p a (Z l))]).length=30-Z l:=oS
 rw[b,c,pz,aD d]
def aa7(s f p a l)(b:pj s p a=Bf):pz s f p a l=(l,p,a):=by
 cases f with
 |zero=>rfl
 |succ f=>rw[pz,aB (by rw[b];decide)]
def alI{n}(s:n=30):0<=nT a b (iD a b c n):=by refine alG ?_;subst s;simp[iD];exact xi _ _ _
def bT(s:B8):List bg×Nat×Int:=pz s 31 0 (-1) []
def bh(s:B8):Int×P9:=gZ ((bT s).1.flatMap bg.gS) []
def eK(s:B8):Bool×Int×Int:=
 if 800<s.size then(Bf,1,0)
 else if 0<=(bT s).2.2 then(Bf,2,(bT s).2.2)
 else if 0<=(bh s).1 then(Bf,3,(bh s).1)
 else if 0<=iF (bT s).1 then(Bf,4,iF (bT s).1)
 else if 0<=ju (bh s).2 (jf (bh s).2 (bT s).1) (bT s).1 then(Bf,5,ju (bh s).2 (jf (bh s).2 (bT s).1) (bT s).1)
 else(Bt,0,0)
def als(a r):tR (a++[r])=tR a++r.cells:=by simp[tR]
def kc.am6{w W e f l n p m s q}(h:kc w b f l n p m s q)(c:∀k,k<F (X w)->W.heap[k]?=w.heap[k]?)(o:F (X w)<=F (X W))(a:W.grownBy e p.ownBlock){r}(v:lN w (b+1) r.R r.hv r.bs r.bv){g}(d:Ow e (b+1) 246 6 g (Z f+1) (tR f++r.cells)):kc (Sc e (C b 0 G) g) b (f++[r]) l n g m s q:=by
 have i:=Ex c o h.bB a h.lt;have k:∀j,Ce e (C b j G)=Ce w (C b j G):=λj=>j8 i
 have t:∀j,e.frozen? (C b j G)=w.frozen? (C b j G):=λj=>zQ i
 have u:=h.lt;have y:=a.size;refine⟨oT,z6 ((k 0).trans h.c0),by rw[tH O,k 1];exact h.c1,by rw[tH O,k 2];exact h.c2,by rw[tH O,k 3];exact h.c3,λj=>by rw[World.frozen?_setCell,t j];exact h.fz j,?_,λx j=>?_,xj c o h.bB a h.oE oD,xj c o h.bB a h.aq oD⟩
 .rw[als,br];exact fh d (a:=(C b 0 G)) oS g
 rcases aS.1 j with j|j
 .exact Io c o h.bB a oD oD (h.aK x j)
 simp at j;subst j;exact Io c o h.bB a oD oD v
def ae8{s}(f):∀{p:Nat} {bd:Int} {l:List aR},(lO s f p bd l).1.length<=Z l+f:=by
 induction f with
 |zero=>intro p bd l;simp[lO]
 |succ f a=>
  intro p bd l;rw[lO]
  split
  .refine bf a ?_;first|(simp;done)|(simp;omega)
  first|(simp;done)|(simp;omega)
def aeb(s p a):(ko s p a).1.length<=4:=by
 unfold ko;split
 .have:=ae8 (s:=s) 4 (p:=jD s (bA s p a).2.1 (bA s p a).2.2 ⟨#[58,45]⟩) (bd:=jT s (bA s p a).2.1 (bA s p a).2.2 ⟨#[58,45]⟩) (l:=[]);simpa using this
 simp
def adW(l)(h:∀r∈l,Z r.R.body<=4):(gT l).length<=5*Z l:=by
 induction l with
 |nil=>simp[gT]
 |cons x r a=>
  have b:=a (λy e=>h y (bG _ e));have y:=h x bz;have e:gT (x::r)=x.R.gS++gT r:=by simp[gT]
  rw[e,br];simp only[bg.gS,ff];omega
def TR(l):gT l=(l.map (·.R)).flatMap bg.gS:=by simp[gT,yl]
def anw(s i):(az s i).kind=46\/(az s i).kind=33\/((az s i).kind=110/\(az s i).text=s.extract (az s i).aC (az s i).zto)\/((az s i).kind=118/\(az s i).text=s.extract (az s i).aC (az s i).zto)\/(az s i).kind=119 \/((az s i).kind=115/\((az s i).text.toList=[40]\/(az s i).text.toList=[41]\/(az s i).text.toList=[44]\/(az s i).text.toList=[46]\/(az s i).text.toList=[58,45])):=by
 unfold az;generalize skip dU s i=k;unfold qO
 by_cases d:s.size<=k
 .simp[d]
 rw[aB d]
 by_cases e:k<skip bO s k
 .rw[aD e]
  split
  .simp
  split<;>simp
 rw[aB e]
 by_cases f:k<skip di s k
 .rw[aD f]
  split<;>simp
 rw[aB f]
 by_cases a:jw s k=0
 .rw[aD a];simp
 rw[aB a]
 by_cases b:jw s k=2
 .rw[aD b];have:(⟨#[58,45]⟩:B8).toList=[58,45]:=by rw[ByteArray.toList_eq]
  simp[this]
 rw[aB b];have g:k<s.size:=O
 have l:=Nd s k g;simp only[l];have j:(s[k].toNat:Int)=40\/(s[k].toNat:Int)=41\/(s[k].toNat:Int)=44\/(s[k].toNat:Int)=46:=by
  unfold jw at a b;rw[tr g]at a b
  by_cases c:(s[k].toNat:Int)=58
  .rw[aD c]at a b
   by_cases u:k+1<s.size
   .rw[tr u]at a b
    by_cases h:(s[k+1].toNat:Int)=45
    .rw[aD h]at b;exact absurd rfl b
    rw[aB h]at a;exact absurd rfl a
   rw[DV u]at a;exact absurd rfl a
  rw[aB c]at a
  by_cases u:(s[k].toNat:Int)=40\/(s[k].toNat:Int)=41\/(s[k].toNat:Int)=44\/(s[k].toNat:Int)=46
  .exact u
  rw[aB u]at a;exact absurd rfl a
 have u:∀c:UInt8,(s[k].toNat:Int)=(c.toNat:Int)->s[k]=c:=λc h=>(Q7 _ _).2 h
 rcases j with h|h|h|h
 .simp[u 40 h]
 .simp[u 41 h]
 .simp[u 44 h]
 simp[u 46 h]
structure aca(s:B8)(p:Nat):Prop where
 k0:(aE s p).1=0↔(az s p).kind=46
 k2:(aE s p).1=2↔(az s p).kind=110
 k3:(aE s p).1=3↔(az s p).kind=118
 k4:(aE s p).1=4↔(az s p).kind=119
 k5:(aE s p).1=5↔((az s p).kind=115/\(az s p).text.toList=[40])
 k6:(aE s p).1=6↔((az s p).kind=115/\(az s p).text.toList=[41])
 k7:(aE s p).1=7↔((az s p).kind=115/\(az s p).text.toList=[44])
 k8:(aE s p).1=8↔((az s p).kind=115/\(az s p).text.toList=[46])
 k9:(aE s p).1=9↔((az s p).kind=115/\(az s p).text.toList=[58,45])
 aC:(aE s p).2.1=(az s p).aC
 pZ:(aE s p).2.2=(az s p).zto
 Rk:(az s p).kind=110\/(az s p).kind=118->hU s p=(az s p).text
def pw(s p)(f:p<=s.size):aca s p:=by
 have h:=anw s p;have e:=alY s p f;have d:(aE s p).1=sV (az s p):=by rw[e]
 have b:(aE s p).2.1=(az s p).aC:=by rw[e]
 have c:(aE s p).2.2=(az s p).zto:=by rw[e]
 have g:(az s p).kind=110\/(az s p).kind=118->hU s p=(az s p).text:=by
  intro a;unfold hU;rw[b,c];rcases h with h|h|h|h|h|h
  .omega
  .omega
  .exact h.2.symm
  .exact h.2.symm
  .omega
  omega
 refine⟨?_,?_,?_,?_,?_,?_,?_,?_,?_,b,c,g⟩
 all_goals
  rw[d];unfold sV;rcases h with h|h|h|h|h|⟨h,a|a|a|a|a⟩
  all_goals first|(simp[h,a];done)|(simp[h.1];done)|(simp[h];done)
variable {b d:B8}{a:Int}{c:Nat}
def Db(h:0<=a):eo b c a=a/\fZ b c a=c:=by
 have e:kq b c a=a:=by unfold kq;rw[aB O]
 have s:eo b c a=a:=by unfold eo;split;exact e;rfl
 exact⟨s,by unfold fZ;rw[s,aB O]⟩
def UZ(h:0<=a):kq b c a=a:=by unfold kq;rw[aB O]
def zh(h:0<=a):iK d c a b=false:=by unfold iK;simp;intro s;omega
def xl{s wd p}(h:0<=a):jD s p a wd=p/\jT s p a wd=a:=by unfold jD jT;rw[zh h];exact⟨rfl,rfl⟩
def Y7(h:0<=a):kZ d c a b=a:=by unfold kZ;rw[zh h];exact UZ h
def TP(h:0<=a):(bA b c a).2.2=a:=by
 have s:jt b c a=a:=by unfold jt;split;exact UZ h;rfl
 have p:tE b c a=a:=by unfold tE;rw[s];exact(Db h).1
 unfold bA;rw[p,zh h];exact(xl h).2
def ahY(h:0<=a):(gj b c a).2=a:=by
 have s:tL b c a=false:=by unfold tL;simp;intro p;omega
 unfold gj kX iM;rw[s];exact TP h
def Da{s p}(h:a<0)(c:(az s p).kind≠33)(d:(az s p).kind≠46):eo s p a=a/\fZ s p a=(az s p).zto:=by
 have b:eo s p a=a:=by unfold eo;rw[aB (by simp[c,d])]
 exact⟨b,by unfold fZ;rw[b,aD h]⟩
def Ew(h:a<0):kq b c a=(az b c).aC:=by unfold kq;rw[aD h]
def Au{wd}(h:a<0):iK b c a wd=Bt↔((az b c).kind=115/\(az b c).text.toList=wd.toList):=by unfold iK;simp[h]
def CD(h:a<0)(s:¬((az d c).kind=115/\(az d c).text.toList=b.toList)):iK d c a b=false:=by
 cases e:iK d c a b with
 |false=>rfl
 |true=>exact absurd ((Au h).1 e) s
def yN(h:a<0)(s:(az d c).kind=115/\(az d c).text.toList=b.toList):jD d c a b=(az d c).zto/\jT d c a b=a:=by have e:=(Au (wd:=b) h).2 s;have t:=Da h (by rw[s.1];decide) (by rw[s.1];decide);unfold jD jT;rw[e];exact⟨t.2,t.1⟩
def yO(h:a<0)(s:¬((az d c).kind=115/\(az d c).text.toList=b.toList)):jD d c a b=c/\jT d c a b=a:=by unfold jD jT;rw[CD h s];exact⟨rfl,rfl⟩
def zZ(c):(rG c).toList=[c]:=by rw[ByteArray.toList_eq]
def fV(t:ie):Bool×B8:=(t.jv,t.text)
variable {e:List ie}
def aaU(f)(h:a<0)(s:¬((az b c).kind=110\/(az b c).kind=118)\/Z e=4):(lj b (f+1) c a e).2.2=(az b c).aC:=by
 have l:fU b c a (Z e)=(az b c).aC:=by
  unfold fU;rw[aD,Ew h];rcases s with s|s
  .simp[not_or.1 s]
  simp[s]
 have p:(0:Int)<=(az b c).aC:=O
 rw[lj];simp only[l,(Db p).1,(Db p).2,zh p,(xl p).1,(xl p).2,Y7 p];rfl
def ani(f)(h:a<0)(p:(az b c).kind=110\/(az b c).kind=118)(d:(Z e)≠4)(s:(az b (az b c).zto).kind=115/\(az b (az b c).zto).text.toList=[44]):lj b (f+1) c a e=lj b f (az b (az b c).zto).zto a (e++[nV b c]):=by
 have l:fU b c a (Z e)=a:=by unfold fU;rw[aB];rcases p with p|p<;>simp[p,d]
 have t:=Da h (p:=c) (s:=b) (by rcases p with p|p<;>rw[p]<;>decide) (by rcases p with p|p<;>rw[p]<;>decide);rw[<-zZ]at s;rw[lj];simp only[l,t.1,t.2,(yN h s).1,(yN h s).2,(Au h).2 s,lM]
def ang(f)(h:a<0)(p:(az b c).kind=110\/(az b c).kind=118)(d:(Z e)≠4)(s:¬((az b (az b c).zto).kind=115/\(az b (az b c).zto).text.toList=[44])):lj b (f+1) c a e=(e++[nV b c],fZ b (az b c).zto (kZ b (az b c).zto a (rG 41)),eo b (az b c).zto (kZ b (az b c).zto a (rG 41))):=by
 have l:fU b c a (Z e)=a:=by unfold fU;rw[aB];rcases p with p|p<;>simp[p,d]
 have t:=Da h (p:=c) (s:=b) (by rcases p with p|p<;>rw[p]<;>decide) (by rcases p with p|p<;>rw[p]<;>decide);rw[<-zZ]at s;rw[lj];simp only[l,t.1,t.2,(yO h s).1,(yO h s).2,CD h s];rfl
def CO(h:a<0)(s:(az b c).kind=115/\(az b c).text.toList=d.toList):fZ b c (kZ b c a d)=(az b c).zto/\eo b c (kZ b c a d)=a:=by have t:=Da h (by rw[s.1];decide) (by rw[s.1];decide);unfold kZ;rw[(Au h).2 s];exact⟨t.2,t.1⟩
def Pk(h:a<0)(s:¬((az d c).kind=115/\(az d c).text.toList=b.toList)):eo d c (kZ d c a b)=(az d c).aC:=by unfold kZ;rw[CD h s];simp only[qi,pG,Ew h];exact(Db O).1
def am4{c t}(a:∀i (h:i<Z e),c i=(e[i]).aC):∀i (h:i<(e++[t]).length),r9 c (Z e) t.aC i=((e++[t])[i]).aC:=by
 intro i h
 by_cases l:i=Z e
 .subst l;simp[r9]
 have b:i<Z e:=by simp at h;omega
 rw[LV b];simp[r9,l,a i b]
def anh(s j)(a:j<0):∀f p l(b:Nat->Nat),Z l+f=4->p<=s.size->(∀i (h:i<Z l),b i=(l[i]).aC) ->((dT s f p (l.map fV) b).1=Bt->(lj s (f+1) p j l).2=((dT s f p (l.map fV) b).2.1,j)/\(dT s f p (l.map fV) b).2.2.1=(lj s (f+1) p j l).1.map fV/\(∀i (h:i<(lj s (f+1) p j l).1.length),(dT s f p (l.map fV) b).2.2.2 i=((lj s (f+1) p j l).1[i]).aC)/\(dT s f p (l.map fV) b).2.1<=s.size) /\((dT s f p (l.map fV) b).1=Bf->(lj s (f+1) p j l).2.2=((aE s (dT s f p (l.map fV) b).2.1).2.1:Int)):=by
 intro f
 induction f with
 |zero=>intro p l b x t _;refine⟨λh=>by simp[dT]at h,λ_=>?_⟩;rw[aaU 0 a (.inr O)];simp only[dT];rw[(pw s p t).aC]
 |succ f y=>
  intro p l b x t v;have K:=pw s p t;have q:(az s p).zto<=s.size:=by rw[<-K.pZ];exact(kv s p t).2
  have c:=pw s (az s p).zto q;have g:(az s (az s p).zto).zto<=s.size:=by rw[<-c.pZ];exact(kv s _ q).2
  by_cases n:(az s p).kind=110\/(az s p).kind=118
  .have k:(aE s p).1=2\/(aE s p).1=3:=(by rw[K.k2,K.k3];exact n);have m:(l.map fV)++[(decide ((aE s p).1=3),hU s p)]=(l++[nV s p]).map fV:=by
    rw[fg];simp only[ir,vc,fV,nV];rw[K.Rk n];have:decide ((aE s p).1=3)=((az s p).kind==118):=by rw[oX];simp[K.k3]
    rw[this]
   have o:∀i (h:i<(l++[nV s p]).length),r9 b (Z l) (aE s p).2.1 i=((l++[nV s p])[i]).aC:=by rw[K.aC];exact am4 (t:=nV s p) v
   rw[dT,aD k,K.pZ,m,bF]
   by_cases r:(az s (az s p).zto).kind=115/\(az s (az s p).zto).text.toList=[44]
   .rw[aD (c.k7.2 r),c.pZ,ani (f+1) a n O r];exact y _ _ _ oT g o
   rw[aB (λe=>r (c.k7.1 e)),ang (f+1) a n O r]
   by_cases d:(az s (az s p).zto).kind=115/\(az s (az s p).zto).text.toList=[41]
   .have u:bR s (az s p).zto 6=(az s (az s p).zto).zto:=(by unfold bR;rw[c.k6.2 d];exact c.pZ);rw[<-zZ]at d;refine⟨λ_=>⟨?_,rfl,o,by simp only[u];exact g⟩,λh=>?_⟩
    .simp only[(CO a d).1,(CO a d).2,u]
    rw[zZ]at d;simp[c.k6.2 d]at h
   have w:¬(aE s (az s p).zto).1=6:=λe=>d (c.k6.1 e)
   have u:bR s (az s p).zto 6=(az s p).zto:=(by unfold bR;rw[aB (oU w)]);rw[<-zZ]at d;refine⟨λh=>by simp[w]at h,λ_=>?_⟩;simp only[Pk a d,u];rw[c.aC]
  have k:¬((aE s p).1=2\/(aE s p).1=3):=by rw[K.k2,K.k3];exact n
  rw[dT,aB k];refine⟨λh=>by simp at h,λ_=>?_⟩;rw[aaU (f+1) a (.inl n)];simp only;rw[K.aC]
def Dg(s:B8)(p:Nat)(bd:Int)(r:Hi):Prop:=
 match r with
 | .no q=>(bA s p bd).2.2=((aE s q).2.1:Int)
 | .yes q pd ts pl=>(bA s p bd).2=(q,bd)/\pd=(az s p).text/\ts=(bA s p bd).1.map fV/\(∀i (h:i<(bA s p bd).1.length),pl i=((bA s p bd).1[i]).aC)/\q<=s.size
def MN(s p b)(a:b<0)(l:p<=s.size):Dg s p b (ik s p):=by
 have K:=pw s p l;have f:(az s p).zto<=s.size:=by rw[<-K.pZ];exact(kv s p l).2
 have i:=pw s (az s p).zto f;have g:(az s (az s p).zto).zto<=s.size:=by rw[<-i.pZ];exact(kv s _ f).2
 unfold ik
 by_cases d:(az s p).kind=110
 .rw[aD (K.k2.2 d),K.pZ,K.Rk (.inl d)];have j:jt s p b=b:=by unfold jt;simp[d]
  have t:=Da a (p:=p) (s:=s) (by rw[d];decide) (by rw[d];decide);have k:tE s p b=b:=by unfold tE;rw[j];exact t.1
  have m:yD s p b=(az s p).zto:=by unfold yD;rw[j];exact t.2
  by_cases c:(az s (az s p).zto).kind=115/\(az s (az s p).zto).text.toList=[40]
  .rw[aD (i.k5.2 c),i.pZ];have e:bA s p b=lj s 5 (az s (az s p).zto).zto b []:=by
    rw[<-zZ]at c;unfold bA;rw[k,m,(Au a).2 c,(yN a c).1,(yN a c).2];rfl
   have T:=anh s b a 4 (az s (az s p).zto).zto [] (λ_=>0) rfl g oS;rw[vc]at T
   cases h:(dT s 4 (az s (az s p).zto).zto [] (λ_=>0)).1 with
   |true=>rw[aD rfl];obtain⟨n,o,q,r⟩:=T.1 h;unfold Dg;simp only[e];exact⟨n,trivial,o,q,r⟩
   |false=>rw[aB oD];unfold Dg;simp only[e];exact T.2 h
  rw[aB (λh=>c (i.k5.1 h))];have e:bA s p b=([],(az s p).zto,b):=by rw[<-zZ]at c;unfold bA;rw[k,m,CD a c,(yO a c).1,(yO a c).2];rfl
  unfold Dg;simp only[e];exact⟨trivial,trivial,oS,oS,f⟩
 rw[aB (λh=>d (K.k2.1 h))];unfold Dg;have j:jt s p b=(az s p).aC:=by unfold jt;simp[d,Ew a]
 have h:(0:Int)<=(az s p).aC:=O
 have k:tE s p b=(az s p).aC:=by unfold tE;rw[j];exact(Db h).1
 simp only;rw[K.aC];unfold bA;rw[k,zh h];exact(xl (s:=s) (wd:=rG 40) (p:=yD s p b) h).2
structure yu(bn:Nat)(A:aR)(M:bW):Prop where
 bn:M.bn=bn
 neg:M.neg=A.no
 pd:M.pd=A.ax
 ts:M.ts=A.aq.map fV
 start:A.no=Bt->M.start=A.aO
 place:M.place=A.aC
 pl:∀i (h:i<Z A.aq),M.pl i=(A.aq[i]).aC
def iL(A:aR):dd:=⟨A.no,A.ax,A.aq.map fV⟩
def fm(R:bg):iu:=⟨R.ay.ax,R.ay.aq.map fV,R.body.map iL⟩
def nC(bn:Nat)(l:List aR)(ms:List bW):Prop:=∃q:List (aR×bW),q.map (·.1)=l/\q.map (·.2)=ms/\∀x∈q,yu bn x.1 x.2
def nC.nil(a):nC a [] []:=⟨[],rfl,rfl,oS⟩
variable {b:List bW}{e:List aR}{a:Nat}{f:bW}{g:aR}
def nC.xM(h:nC a e b)(A:yu a g f):nC a (e++[g]) (b++[f]):=by
 obtain⟨q,c,d,l⟩:=h;refine⟨q++[(g,f)],by simp[c],by simp[d],λx h=>?_⟩;rcases aS.1 h with h|h
 .exact l x h
 simp at h;subst h;exact A
def nC.cons(h:nC a e b)(A:yu a g f):nC a (g::e) (f::b):=by
 obtain⟨q,c,d,l⟩:=h;refine⟨(g,f)::q,by simp[c],by simp[d],λx h=>?_⟩;rcases bS.1 h with h|h
 .subst h;exact A
 exact l x h
def ahV(s p b)(c:b<0)(f:p<=s.size):tL s p b=((aE s p).1==4)/\iM s p b=bR s p 4/\kX s p b=b:=by
 have K:=pw s p f;have e:tL s p b=((aE s p).1==4):=by unfold tL;rw[oX];simp[c,K.k4]
 by_cases h:(aE s p).1=4
 .have d:=K.k4.1 h;have t:=Da c (p:=p) (s:=s) (by rw[d];decide) (by rw[d];decide);have a:((aE s p).1==4)=true:=by simpa using h
  refine⟨e,?_,?_⟩
  .unfold iM bR;rw[e,aD a,aD a,t.2,K.pZ]
  unfold kX;rw[e,aD a,t.1]
 have a:¬((aE s p).1==4)=true:=by simpa using h
 refine⟨e,?_,?_⟩
 .unfold iM bR;rw[e,aB a,aB a]
 unfold kX;rw[e,aB a]
variable {c:B8}{d:Int}
def aa5(h:a<=c.size):bR c a d<=c.size:=by
 unfold bR;split
 .exact(kv c a h).2
 exact h
def ahU(s c p a)(b:a<0)(d:p<=s.size):
  match ik s (bR s p 4) with
  | .no q=>(gj s p a).2=((aE s q).2.1:Int)
  | .yes q e f j=>gj s p a=(q,a)/\qM s p e f=iL (lQ s p a)/\yu c (lQ s p a) (uM s c p e f j)/\q<=s.size:=by
 obtain⟨o,r,t⟩:=ahV s p a b d;have A:=MN s (bR s p 4) a b (aa5 d);have K:=pw s p d;have k:=pw s (bR s p 4) (aa5 d);unfold gj lQ;rw[o,r,t]
 cases i:ik s (bR s p 4) with
 |no q=>rw[i]at A;exact A
 |yes q e f j=>rw[i]at A;obtain⟨l,g,h,m,n⟩:=A;refine⟨l,by simp[qM,iL,g,h],⟨rfl,rfl,g,h,λ_=>K.aC,k.aC,m⟩,n⟩
def TU(s f p a l):lO s (f+1) p a l =if iK s (gj s p (dK s p a (Z l))).1 (gj s p (dK s p a (Z l))).2 ⟨#[44]⟩ then lO s f (jD s (gj s p (dK s p a (Z l))).1 (gj s p (dK s p a (Z l))).2 ⟨#[44]⟩) (jT s (gj s p (dK s p a (Z l))).1 (gj s p (dK s p a (Z l))).2 ⟨#[44]⟩) (l++[lQ s p (dK s p a (Z l))]) else(l++[lQ s p (dK s p a (Z l))],jD s (gj s p (dK s p a (Z l))).1 (gj s p (dK s p a (Z l))).2 ⟨#[44]⟩,jT s (gj s p (dK s p a (Z l))).1 (gj s p (dK s p a (Z l))).2 ⟨#[44]⟩):=by rw[lO]
def TW(s f p c l)(a:Nat)(h:(gj s p (dK s p c (Z l))).2=(a:Int)):(lO s (f+1) p c l).2.2=(a:Int):=by
 have b:(0:Int)<=(a:Int):=O
 rw[TU,h,zh b,(xl b).1,(xl b).2];rfl
def Jn{p b}(h:d=(a:Int)):eo c p (kZ c p d b)=(a:Int):=by
 have s:(0:Int)<=(a:Int):=O
 subst h;rw[Y7 s];exact(Db s).1
def aea(s a d)(c:d<0):∀f p l b g,Z l+f=3->p<=s.size->nC a l g ->((jR s a f p (l.map iL) (b++g)).1=Bt->∃q K,(lO s (f+1) p d l).2=(q,d)/\(aE s q).1=8/\q<=s.size/\(jR s a f p (l.map iL) (b++g)).2.1=(aE s q).2.2/\(jR s a f p (l.map iL) (b++g)).2.2.1=(lO s (f+1) p d l).1.map iL/\(jR s a f p (l.map iL) (b++g)).2.2.2=b++K/\nC a (lO s (f+1) p d l).1 K) /\((jR s a f p (l.map iL) (b++g)).1=Bf->eo s (lO s (f+1) p d l).2.1 (kZ s (lO s (f+1) p d l).2.1 (lO s (f+1) p d l).2.2 ⟨#[46]⟩)=((aE s (jR s a f p (l.map iL) (b++g)).2.1).2.1:Int)):=by
 intro f
 induction f with
 |zero=>
  intro p l b g D v _;have K:=pw s p v;refine⟨λh=>by simp[jR]at h,λ_=>?_⟩;have e:dK s p d (Z l)=((az s p).aC:Int):=by
   unfold dK;have:(Z l==3)=true:=oT
   rw[aD this,Ew c]
  have L:(0:Int)<=((az s p).aC:Int):=O
  have t:=TW s 0 p d l (az s p).aC (by rw[e];exact ahY L);simp only[jR];rw[Jn t,K.aC]
 |succ f E=>
  intro p l b g D v B;have e:dK s p d (Z l)=d:=by
   unfold dK;have:¬(Z l==3)=true:=oT
   rw[aB this]
  have L:=ahU s a p d c v;rw[jR]
  cases A:ik s (bR s p 4) with
  |no q=>rw[A]at L;have t:=TW s (f+1) p d l (aE s q).2.1 (by rw[e];exact L);refine⟨λh=>by simp at h,λ_=>?_⟩;rw[Jn t]
  |yes q o r z=>
   rw[A]at L;obtain⟨M,N,Q,y⟩:=L;have K:=pw s q y;have n:l.map iL++[qM s p o r]=(l++[lQ s p d]).map iL:=(by simp[N]);have u:b++g++[uM s a p o r z]=b++(g++[uM s a p o r z]):=oS;have k:=B.xM Q;rw[TU,e,M];simp only;rw[n,u]
   by_cases m:(az s q).kind=115/\(az s q).text.toList=[44]
   .have L:(az s q).kind=115/\(az s q).text.toList=(⟨#[44]⟩:B8).toList:=⟨m.1,by rw[m.2,ByteArray.toList_eq]⟩;rw[aD (K.k7.2 m),K.pZ,(Au c).2 L,(yN c L).1,(yN c L).2,aD rfl];exact E _ _ _ _ oT (by rw[<-K.pZ];exact(kv s q y).2) k
   have L:¬((az s q).kind=115/\(az s q).text.toList=(⟨#[44]⟩:B8).toList):=λh=>m ⟨h.1,by rw[h.2,ByteArray.toList_eq]⟩
   rw[aB (λh=>m (K.k7.1 h)),CD c L,(yO c L).1,(yO c L).2,aB oD]
   by_cases w:(az s q).kind=115/\(az s q).text.toList=[46]
   .have j:=K.k8.2 w;have i:bR s q 8=(aE s q).2.2:=(by unfold bR;rw[aD (oU j)]);refine⟨λ_=>⟨q,g++[uM s a p o r z],rfl,j,y,i,rfl,rfl,k⟩,λh=>by simp[j]at h⟩
   have j:¬(aE s q).1=8:=λh=>w (K.k8.1 h)
   have i:bR s q 8=q:=(by unfold bR;rw[aB (oU j)]);have x:¬((az s q).kind=115/\(az s q).text.toList=(⟨#[46]⟩:B8).toList):=λh=>w ⟨h.1,by rw[h.2,ByteArray.toList_eq]⟩
   refine⟨λh=>by simp[j]at h,λ_=>?_⟩;simp only[i];rw[Pk c x,K.aC]
def alE(s a p c)(b:c<0)(T:p<=s.size)(i):((iC s a p i).1=Bt->∃j,uQ s p c=(iC s a p i).2.1/\nT s p c=c/\(iC s a p i).2.1<=s.size/\(iC s a p i).2.2.1=fm (pS s p c)/\(iC s a p i).2.2.2=i++j/\nC a (pS s p c).gS j) /\((iC s a p i).1=Bf->nT s p c=((aE s (iC s a p i).2.1).2.1:Int)):=by
 have A:=MN s p c b T;have K:=pw s p T;unfold iC
 cases V:ik s p with
 |no q=>
  rw[V]at A;have t:(0:Int)<=((aE s q).2.1:Int):=O
  refine⟨λh=>by simp at h,λ_=>?_⟩;unfold nT ko;rw[show(bA s p c).2.2=((aE s q).2.1:Int) from A,zh t];simp only[qi,pG];exact Jn (xl t).2
 |yes q t v u=>
  rw[V]at A;obtain⟨E,w,x,W,y⟩:=A;have e:(bA s p c).2.1=q:=by rw[E]
  have f:(bA s p c).2.2=c:=by rw[E]
  have k:=pw s q y;have hrel:yu a (jZ s p c) (pR s a p t v u):=⟨rfl,rfl,w,x,λh=>by simp[jZ]at h,K.aC,W⟩
  by_cases n:(az s q).kind=115/\(az s q).text.toList=[58,45]
  .have d:(az s q).kind=115/\(az s q).text.toList=(⟨#[58,45]⟩:B8).toList:=⟨n.1,by rw[n.2,ByteArray.toList_eq]⟩;have o:=k.k9.2 n;have m:¬(aE s q).1=8:=(by rw[o];decide);have g:ko s p c=lO s 4 (az s q).zto c []:=by
    unfold ko;rw[e,f,(Au b).2 d,(yN b d).1,(yN b d).2];rfl
   have z:(az s q).zto<=s.size:=(by rw[<-k.pZ];exact(kv s q y).2);have B:=aea s a c b 3 (az s q).zto [] (i++[pR s a p t v u]) [] rfl z (nC.nil a);rw[vc,kO]at B;simp only[aB m,aD o,k.pZ];refine⟨λh=>?_,λh=>?_⟩
   .obtain⟨r,j,L,b2,M,N,b5,b6,Q⟩:=B.1 h;have D:=pw s r M;have l:=D.k8.1 b2;have A:(az s r).kind=115/\(az s r).text.toList=(⟨#[46]⟩:B8).toList:=⟨l.1,by rw[l.2,ByteArray.toList_eq]⟩;have R:(ko s p c).2.1=r:=(by rw[g,L]);have S:(ko s p c).2.2=c:=(by rw[g,L]);refine⟨pR s a p t v u::j,?_,?_,?_,?_,?_,?_⟩
    .unfold uQ;rw[R,S,(CO b A).1,N,D.pZ]
    .unfold nT;rw[R,S,(CO b A).2]
    .rw[N];exact(kv s r M).2
    .rw[b5,<-g];simp[fm,pS,jZ,w,x]
    .rw[b6];simp
    rw[<-g]at Q;exact nC.cons Q hrel
   unfold nT;rw[g];exact B.2 h
  have d:¬((az s q).kind=115/\(az s q).text.toList=(⟨#[58,45]⟩:B8).toList):=λh=>n ⟨h.1,by rw[h.2,ByteArray.toList_eq]⟩
  have o:¬(aE s q).1=9:=λh=>n (k.k9.1 h)
  have g:ko s p c=([],q,c):=by unfold ko;rw[e,f,CD b d,(yO b d).1,(yO b d).2];rfl
  by_cases l:(az s q).kind=115/\(az s q).text.toList=[46]
  .have A:(az s q).kind=115/\(az s q).text.toList=(⟨#[46]⟩:B8).toList:=⟨l.1,by rw[l.2,ByteArray.toList_eq]⟩;have m:=k.k8.2 l;simp only[aD m];refine⟨λ_=>⟨[pR s a p t v u],?_,?_,(kv s q y).2,?_,rfl,?_⟩,λh=>by simp at h⟩
   .unfold uQ;rw[g];simp only;rw[(CO b A).1,k.pZ]
   .unfold nT;rw[g];simp only;rw[(CO b A).2]
   .simp[fm,pS,jZ,g,w,x]
   have:(pS s p c).gS=[jZ s p c]:=by simp[pS,bg.gS,g]
   rw[this];exact nC.cons (nC.nil a) hrel
  have A:¬((az s q).kind=115/\(az s q).text.toList=(⟨#[46]⟩:B8).toList):=λh=>l ⟨h.1,by rw[h.2,ByteArray.toList_eq]⟩
  have m:¬(aE s q).1=8:=λh=>l (k.k8.1 h)
  simp only[aB m,aB o];refine⟨λh=>by simp at h,λ_=>?_⟩;unfold nT;rw[g];simp only;rw[Pk b A,k.aC]
inductive oj:Nat->List bg->List bW->Prop where
 |nil (n:Nat):oj n [] []
 |cons {n:Nat} {R:bg} {rs:List bg} {ms ms':List bW} (h:nC n R.gS ms) (t:oj (n+1) rs ms'):oj n (R::rs) (ms++ms')
def oj.xM{n c}(h:oj n c b):∀{R:bg} {a:List bW},nC (n+Z c) R.gS a->oj n (c++[R]) (b++a):=by
 induction h with
 |nil n=>intro R a d;have:=oj.cons (rs:=[]) (ms':=[]) d (oj.nil _);simpa using this
 |cons h t e=>intro R a d;rw[qT,jA];refine oj.cons h (e ?_);simpa[Nat.add_comm,Nat.add_left_comm,G3]using d
def alH(s b)(i:b<0):∀f p a d,Z a+f=30->p<=s.size->oj 0 a d ->((mA s (f+1) p (a.map fm) d).1=Bt->(pz s (f+1) p b a).2.2=b/\(mA s (f+1) p (a.map fm) d).2.2.1=(pz s (f+1) p b a).1.map fm/\oj 0 (pz s (f+1) p b a).1 (mA s (f+1) p (a.map fm) d).2.2.2) /\((mA s (f+1) p (a.map fm) d).1=Bf->(pz s (f+1) p b a).2.2=((aE s (mA s (f+1) p (a.map fm) d).2.1).2.1:Int)):=by
 intro f
 induction f with
 |zero=>
  intro p a d q m k;have K:=pw s p m;rw[mA,pz]
  by_cases g:(aE s p).1=0
  .have j:pj s p b=false:=(by unfold pj;simp[K.k0.1 g]);rw[aD g,j,aB oD];exact⟨λ_=>⟨rfl,rfl,k⟩,λh=>by simp at h⟩
  have j:pj s p b=true:=by unfold pj;simp[i];exact λh=>g (K.k0.2 h)
  rw[aB g,aD oT,j,aD rfl];refine⟨λh=>by simp at h,λ_=>?_⟩;have e:iD s p b (Z a)=((az s p).aC:Int):=by unfold iD;rw[aD oT,Ew i]
  have c:(0:Int)<=((az s p).aC:Int):=O
  simp only[pz,e];unfold nT;have l:(ko s p ((az s p).aC:Int)).2.2=((az s p).aC:Int):=by unfold ko;rw[TP c,zh c,(xl c).1,(xl c).2];rfl
  rw[Jn l,K.aC]
 |succ f r=>
  intro p a d q m k;have K:=pw s p m;rw[mA,pz]
  by_cases g:(aE s p).1=0
  .have j:pj s p b=false:=(by unfold pj;simp[K.k0.1 g]);rw[aD g,j,aB oD];exact⟨λ_=>⟨rfl,rfl,k⟩,λh=>by simp at h⟩
  have j:pj s p b=true:=by unfold pj;simp[i];exact λh=>g (K.k0.2 h)
  have e:iD s p b (Z a)=b:=by unfold iD;rw[aB oT]
  rw[aB g,aB oT,j,aD rfl,e,bF];have R:=alE s (Z a) p b i m d
  cases n:(iC s (Z a) p d).1 with
  |true=>obtain⟨_,t,u,v,w,x,y⟩:=R.1 n;rw[aD rfl,t,u,w,x];have o:a.map fm++[fm (pS s p b)]=(a++[pS s p b]).map fm:=oS;rw[o];exact r _ _ _ oT v (k.xM (oU y))
  |false=>have l:=R.2 n;rw[aB oD];refine⟨λh=>by simp at h,λ_=>?_⟩;have c:pj s (uQ s p b) (nT s p b)=false:=(by unfold pj;rw[l];simp);rw[aa7 _ _ _ _ _ c];exact l
def dL(s:B8):Bool×Nat×List iu×List bW:=mA s 31 0 [] []
def JE(s):((dL s).1=Bt->(bT s).2.2=-1/\(dL s).2.2.1=(bT s).1.map fm/\oj 0 (bT s).1 (dL s).2.2.2) /\((dL s).1=Bf->(bT s).2.2=((aE s (dL s).2.1).2.1:Int)):=
 alH s (-1) oD 30 0 [] [] rfl (aI _) (oj.nil 0)
structure PR where
 R:iu
 hv:V9
 bs:List (dd×V9)
 bv:V9
def PR.cells(r:PR):V8:=[Y r.R.pd,r.hv,r.bv]
def FM(rs:List PR):V8:=rs.flatMap PR.cells
def aks(a r):FM (a++[r])=FM a++r.cells:=by simp[FM]
structure l6(w:W8)(base:Nat)(r:PR):Prop where
 hd:Ow w base 191 1 r.hv (Z r.R.ts) (jm r.R.ts)
 bo:iR w base r.bv r.bs
 eq:r.bs.map (·.1)=r.R.body
structure gi(w:W8)(base:Nat)(rv:V9)(rs:List PR):Prop where
 row:Ow w base 123 3 rv (Z rs) (FM rs)
 aK:∀r∈rs,l6 w base r
variable {b e j:Nat}{k:PR}{a d l:W8}
def l6.iT{B}(h:l6 a b k)(r:ak B a d)(c:∀x∈B,x<b\/(er a 183 x/\er a 191 x)):l6 d b k:=
 ⟨j3 h.hd r (λx w=>(c x w).imp id GD),h.bo.iT r c,h.eq⟩
def l6.dS(h:l6 a b k)(c:e<=b):l6 a e k:=⟨aX h.hd c,h.bo.dS c,h.eq⟩
variable {f:List PR}{c h m:V9}
def gi.iT{B}(h:gi a b c f)(k:ak B a d)(e:∀x∈B,x<b\/(er a 123 x/\er a 183 x/\er a 191 x)):gi d b c f:=
 ⟨j3 h.row k (λx w=>(e x w).imp id And.left),λr g=>(h.aK r g).iT k (λx w=>(e x w).imp id GD)⟩
def gi.dS(h:gi a b c f)(w:e<=b):gi a e c f:=⟨aX h.row w,λr d=>(h.aK r d).dS w⟩
variable {g:List (bW×V9)}
def gv.dS(h:gv a b c g)(w:e<=b):gv a e c g:=⟨aX h.row w,λr f=>aX (h.aK r f) w⟩
structure uk(w:W8)(b:Nat)(s:B8)(rs:List PR)(p bn:Nat)(ms:List (bW×V9))(mv rv:V9)(wr:W8):Prop where
 ek:fX wr b s p bn mv
 hp:p<=s.size
 gG:gv wr (b+1) mv ms
 bB:gi wr (b+1) rv rs
 gO:wr.heap[F (X w)]?=P (Vc #[U G 0 0,U G 0 0] 100)
 ai:Below (F (X w)) w wr
 bw:F (X w)<b
def ib{B}(h:Below b d l)(k:ak B l a)(c:b<=F (X l))(n:∀x∈B,b<=x):Below b d a:=
 h.trans ⟨k.os,k.tape,k.output,k.size,λi x=>k.block i (iz x c) (λx=>by have:=n i x;omega)⟩
variable {i:B8}
def uk.bn(wr:uk a b i f e j g c h d)(k):uk a b i f e k g c h (Sc d (C b 4 G) (I J k)):=by
 have l:=wr.bw;have w:ak [b] d (Sc d (C b 4 G) (I J k)):=(ak.refl [b] d).setCell oS _;obtain⟨q,_,_,_,_,s,_,p⟩:=wr.ek;refine⟨⟨by simpa using q,?_,?_,?_,?_,qz s,?_,λo=>by simpa using p o⟩,wr.hp,wr.gG.kept w oS,wr.bB.iT w oS,lC wr.gO w oT,ib wr.ai w O oT,l⟩
 all_goals(rw[iA O];assumption)
def uk.cH{wr p}(n:uk a b i f e j g h m d)(k:ak (b::h.ownBlock.toList) d l)(t:fX l b i wr j c)(r:wr<=i.size)(q:gv l (b+1) c p):uk a b i f wr j p c m l:=by
 have o:=n.bw;have v:=n.ek.lt;have s:∀x∈(b::h.ownBlock.toList),x=b\/(b+1<=x/\er d 123 x/\er d 183 x/\er d 191 x/\er d 100 x):=λx w=>by
  rcases bS.1 w with rfl|w
  .exact .inl rfl
  exact .inr ⟨(n.gG.row.lt x (oU w)).1,gl n.gG.row oD x w,gl n.gG.row oD x w,gl n.gG.row oD x w,gl n.gG.row oD x w⟩
 refine⟨t,r,q,n.bB.iT k (λx w=>?_),lC n.gO k (λx w=>?_),ib n.ai k O (λx w=>?_),o⟩
 .rcases s x w with rfl|u
  .exact .inl O
  exact .inr ⟨u.2.1,u.2.2.1,u.2.2.2.1⟩
 .rcases s x w with rfl|u
  .exact .inl O
  exact .inr u.2.2.2.2
 rcases s x w with rfl|u<;>omega
def uk.append{n}(q:uk a b i f e j g c h l)(z:ak [] l d)(v:l6 l (b+1) k)(p:Ow n (b+1) 123 3 m (Z f+1) (FM f++k.cells)) (u:d.grownBy n h.ownBlock):uk a b i (f++[k]) e j g c m n:=by
 have t:=q.bw;have A:=q.ek.lt;have W:ak h.ownBlock.toList l n:=((z.mono (C:=h.ownBlock.toList) oS)).grown u (λr s=>.inr (by simp[s]));have o:∀x∈h.ownBlock.toList,b+1<=x:=λx r=>(q.bB.row.lt x (oU r)).1
 have w:∀x∈h.ownBlock.toList,∀s,123≠s->er l s x:=λx r s y=>gl q.bB.row y x r
 refine⟨q.ek.kept W (λy=>by have:=o b y;omega),q.hp,q.gG.iT W (λx r=>.inr ⟨w x r _ oD,w x r _ oD⟩),⟨?_,λy s=>?_⟩,lC q.gO W (λx r=>.inr (w x r _ oD)),ib q.ai W O (λx r=>by have:=o x r;omega),t⟩
 .rw[aks,br];exact p
 rcases aS.1 s with s|s
 .exact(q.bB.aK y s).iT W (λx r=>.inr ⟨w x r _ oD,w x r _ oD⟩)
 simp at s;subst s;exact v.iT W (λx r=>.inr ⟨w x r _ oD,w x r _ oD⟩)
def acK(w:W8)(s:B8)(b:Bool×Nat×List iu×List bW)(e:Ending)(w':W8):Prop:=
 Below (F (X w)) w w'/\(b.1=Bf->e=Vr (Vt #[Va #[U G 0 0,U G 0 0],I J (aE s b.2.1).2.1,Vb Bf])) /\
 (b.1=Bt->∃(a:O8)(n c:Nat)(a':O8)(n' c':Nat)(rs:List PR)(ms:List (bW×V9)),e=Vr (Vt #[Va #[U a n c,U a' n' c'],I J 0,Vb Bt])/\gi w' (F (X w)) (U a n c) rs/\rs.map (·.R)=b.2.2.1/\gv w' (F (X w)) (U a' n' c') ms/\ms.map (·.1)=b.2.2.2/\(Z rs)<=30/\(Z ms)<=120)
def XQ:(prog.info? 123).map (λi=>(i.zero,i.size,i.bytes))=P (P (Va #[Y ⟨#[]⟩,U G 0 0,U G 0 0]),3,64):=oK
def ZM(a o)(r:PR)(j u)(h:r.cells[j]?=P u):Ce (Al (Al a o) (Vc #[Y r.R.pd,r.hv,r.bv] 123)) (((C (F (X a)+1) 0 G):Addr).add j)=P u:=by
 have e:((C (F (X a)+1) 0 G):Addr).add j=(C (F (X a)+1) j G):=by unfold Addr.add;split<;>simp_all
 rw[e,World.cell?_alloc_at _ _ _ _ oS];simpa[PR.cells]using h
def ZN(R a n c d g f e):∀u∈(PR.mk R (U a n c) e (U d g f)).cells,u.oneCell'=true:=by intro u b;simp[PR.cells]at b;rcases b with rfl|rfl|rfl<;>rfl
def akN{s}(w:Below (Al a (Vc #[U G 0 0,U G 0 0] 100)).heap.size (Al a (Vc #[U G 0 0,U G 0 0] 100)) d):uk a (F (X d)) s [] 0 0 [] (U G 0 0) (U G 0 0) (Al d (Vc #[Y s,I J (aE s 0).1,I J (aE s 0).2.1,I J (aE s 0).2.2,I J 0,U G 0 0] 163)):=by
 have c:=w.size;simp at c;refine⟨⟨oS,?_,?_,?_,?_,?_,?_,?_⟩,aI _,⟨dm _ _ _ _,oS⟩,⟨dm _ _ _ _,oS⟩,?_,?_,O⟩
 all_goals first|(rw[World.cell?_alloc_at _ _ _ _ rfl];rfl)|(intro o;rw[World.frozen?_alloc_at _ _ _ _ rfl];done)|skip
 .rw[aW _ _ _ O,w.block _ oS];exact aG a _
 exact(oA.trans (w.mono oS)).alloc O _
def tS(d:Ce a (C b 0 G)=P c)(e:Ce a (C b 1 G)=P h)(n f):Ce (Sc (Sc a (C b 0 G) n) (C b 1 G) f) (C b 0 G)=P n/\Ce (Sc (Sc a (C b 0 G) n) (C b 1 G) f) (C b 1 G)=P f:=
 ⟨by rw[iA O];exact qz d,qz (by rw[iA O];exact e)⟩
def akC(s p a b)(h:Z a<=30):mA s (31-Z a) p a b =if(aE s p).1=0 then(Bt,p,a,b) else if (Z a)=30 then(Bf,p,a,b) else if(iC s (Z a) p b).1 then mA s (31-(Z a+1)) (iC s (Z a) p b).2.1 (a++[(iC s (Z a) p b).2.2.1]) (iC s (Z a) p b).2.2.2 else(Bf,(iC s (Z a) p b).2.1,a,(iC s (Z a) p b).2.2.2):=by
 have e:31-Z a=(31-(Z a+1))+1:=O
 rw[e,mA]
def aky(w s)(hs:s.size<=2000000):Calls prog 45 #[Y s] w (acK w s (dL s)):=by
 have pN:s.size<=maxLen:=oM
 obtain⟨i0,hi,gB,dx,cB⟩:=info_parts XQ;go_in;go_wp2_with fail;refine(QD s 0 (aI _) pN _).mono ?_;rintro e w1⟨rfl,g⟩;have i:=akN (s:=s) g;clear g;go_wp2
 go_loopg [6] 32 (λg a wr=>∃(b:List PR)(d:List (bW×V9))(p Q:Nat)(mv:V9),Z b<=30/\31-Z b<=g/\(Z d)<=4*Z b/\uk w (F (X w1)) s b p Q d mv a wr/\dL s=mA s (31-Z b) p (b.map (·.R)) (d.map (·.1)))
 exact⟨[],[],0,0,_,oS,oS,oS,i,rfl⟩
 case round=>
  clear i;obtain⟨b,d,p,Q,mv,hl,_,_,g,a⟩:=hrel;obtain⟨a1,j,rfl⟩:=aF g.bB.row;obtain⟨a2,k,rfl⟩:=aF g.gG.row;have i:=akC s p (b.map (·.R)) (d.map (·.1)) (oU hl);rw[bF]at i;have D:=H (a.trans i);clear a i;have An:=g.hp;obtain⟨mM,c0,c1,c2,c3,c4,c5,fz⟩:=g.ek;have EF:=g.bw;obtain⟨T,f0⟩:=aj g.gO 0;obtain⟨V,f1⟩:=aj g.gO 1;have z:=H g;clear g
  by_cases a:(aE s p).1=0
  .have h0i:((aE s p).1 != 0)=false:=(by simp[a]);have g:=H (D.trans (aD a));have HE:=H a;clear D a;go_wp2_with fail;obtain⟨R,S⟩:=tS T V (U a1 (Z b) j) (U a2 (Z d) k);refine bN (v:=Vt #[Va #[U a1 (Z b) j,U a2 (Z d) k],I J 0,Vb Bt]) (by simp[results,results45,go_sem,R,S]) rfl ?_;have m:=py wr (F (X w)) (U a1 (Z b) j) (U a2 (Z d) k);have i:=ag z;have f:∀e,100≠e->er wr e (F (X w)):=λe h=>rX i.gO h
   rw[ag g];refine⟨ib i.ai m O oS,λe=>(by cases e),λ_=>⟨_,_,_,_,_,_,b,d,rfl,(i.bB.dS O).iT m (λx h=>?_),rfl,(i.gG.dS O).iT m (λx h=>?_),rfl,hl,O⟩⟩
   .simp at h;subst h;exact .inr ⟨f _ oD,f _ oD,f _ oD⟩
   simp at h;subst h;exact .inr ⟨f _ oD,f _ oD⟩
  have h0i:((aE s p).1 != 0)=true:=by simp[a]
  have g:=H (D.trans (aB a));have HE:=H a;clear D a
  by_cases a:Z b=30
  .have D:((Z b:Int)==30)=true:=oT;have f:=H (g.trans (aD a));clear g a;go_wp2
   go_region
   all_goals
    go_wp2_with fail;obtain⟨R,S⟩:=tS T V (U G 0 0) (U G 0 0);refine bN (v:=Vt #[Va #[U G 0 0,U G 0 0],I J (aE s p).2.1,Vb Bf]) (by simp[results,results45,go_sem,R,S]) rfl ?_;rw[ag f];refine⟨ib z.ai ((py wr (F (X w)) (U G 0 0) (U G 0 0)).drew) O oS,λ_=>rfl,λe=>(by cases e)⟩
  have D:((Z b:Int)==30)=false:=oT
  have f:=H (g.trans (aB a));have mN:Z b<30:=O
  have m:=H (z.bn (Z b));clear g a;go_wp2_with fail;refine(aku _ (F (X w1)) s p (Z b) _ d m.ek m.gG O An hs).mono ?_;rintro e y⟨x,a,n,c,W,n',c',_,rfl,g,o,q,i⟩;clear c0 c1 c2 c3 c4 c5 fz T V f0 f1;have qH:=g.size;rw[Me]at qH
  cases E:(iC s (Z b) p (d.map (·.1))).1 with
  |false=>
   have u:=H (f.trans (aB (by rw[E];decide)))
   have r:y.heap[F (X w)]?=P (Vc #[U G 0 0,U G 0 0] 100):=lC m.gO g (λx h=>by
    rcases bS.1 h with rfl|h
    .exact .inl O
    exact .inr (gl m.gG.row oD x h))
   have l:Below (F (X w)) w y:=ib m.ai g oT (λx h=>by
    rcases bS.1 h with rfl|h
    .omega
    have:=(m.gG.row.lt x (oU h)).1;omega)
   have t:=(ak.refl [] y).alloc (Vc #[Y x,U a n c,U W n' c'] 123);obtain⟨mM,c0,c1,c2,c3,c4,c5,fz⟩:=o.kept t oS;obtain⟨T,f0⟩:=aj (lC r t oS) 0;obtain⟨V,f1⟩:=aj (lC r t oS) 1;have L:=H l;clear i q g o f E m z r t l;go_wp2
   go_region
   all_goals
    go_wp2_with fail;obtain⟨R,S⟩:=tS T V (U G 0 0) (U G 0 0);refine bN (v:=Vt #[Va #[U G 0 0,U G 0 0],I J (aE s (iC s (Z b) p (d.map (·.1))).2.1).2.1,Vb Bf]) (by simp[results,results45,go_sem,R,S]) rfl ?_;rw[ag u];refine⟨ib (L.alloc O _) ((py _ (F (X w)) (U G 0 0) (U G 0 0)).drew) oT oS,λ_=>rfl,λe=>(by cases e)⟩
  |true=>have u:=H (f.trans (aD E));obtain⟨bs,ms',rfl,M,t,_,N,L,r,_,Ak⟩:=i E;have v:=m.cH g o Ak M;have K:l6 y (F (X w1)+1) ⟨(iC s (Z b) p (d.map (·.1))).2.2.1,U a n c,bs,U W n' c'⟩:=⟨aX N oT,L.dS oT,r⟩;have l:=v.bB.row;have B:=H v;have A:=H K;have HMM:=H t;clear i q g o M N L r v K f E m z t;go_wp2_with(at_builtin;refine ka _ rfl _ _ 75 rfl (F (X w1)+1) 123 i0 _ 3 64 underlying75 hi gB dx cB rfl oD _ _ _ rfl ((l.alloc _).alloc _) (C (F (X y)+1) 0 G) 1 1 (PR.mk (iC s (Z b) p (d.map (·.1))).2.2.1 (U a n c) bs (U W n' c')).cells rfl rfl (ZM y _ (PR.mk (iC s (Z b) p (d.map (·.1))).2.2.1 (U a n c) bs (U W n' c'))) (ZN _ _ _ _ _ _ _ _) oM O oT ?_);intro E f i z t;clear t;obtain⟨_,_,rfl⟩:=aF i;have t:=B.append (((ak.refl [] y).alloc _).alloc _) A i z;have m:=H t;clear i z l t B A;go_wp2;go_roundg(31-(Z b+1));exact⟨_,ms',_,_,_,oT,oS,oT,m,by rw[ag u,ag HMM];simp⟩;omega
open Go.Maps
def afY{α:Type}(f:α->V8)(n)(e:∀x,(f x).length=n):∀l k j(a:k<Z l),j<n->(l.flatMap f)[k*n+j]?=(f l[k])[j]?:=by
 intro l
 induction l with
 |nil=>intro k j a;simp at a
 |cons x r g=>
  intro k j a d;have b:=e x;rw[lY]
  cases k with
  |zero=>rw[wL O];simp
  |succ k=>rw[ug (by rw[b,wT];omega)];have c:(k+1)*n+j-(f x).length=k*n+j:=(by rw[b,wT];omega);rw[c,g k j (oU a) d];simp
variable {a f h:Nat}{b:V9}{c e:W8}
def gu{α:Type}{f:α->V8}{n:Nat}(o:∀x,(f x).length=n){e:TypeId}{l:List α}(h:Ow c a e n b (Z l) (l.flatMap f))(k:Nat)(hk:k<Z l):∃g x,b=U (P (C g 0 G)) (Z l) x/\a<=g/\g<F (X c)/\(Z l)<=x/\x<=maxLen/\∀j,j<n->Ce c (C g (k*n+j) G)=(f l[k])[j]?:=by
 rcases h.2 with⟨_,_⟩|⟨g,x,_,rfl,w,d,v,base,_,_⟩
 .omega
 have m:=(aM.1 d).1;refine⟨g,x,rfl,w,m,v,base,λj i=>?_⟩;have:(k+1)*n<=Z l*n:=yn n hk;rw[h.cellAt (k*n+j) (by rw[wT]at this;omega),afY f n o l k j hk i]
def Pd(x:bW×V9):(x.1.cells x.2).length=10:=rfl
def aQ{w d m}(n:Ow e a w f b h d)(v:Below m e c)(j:∀g,b.ownBlock=P g->g<m):Ow c a w f b h d:=gC n (λg i=>v.block g (j g i))
variable {d:List (bW×V9)}
def gv.ai(h:gv c a b d)(f:Below (F (X c)) c e):gv e a b d:=
 ⟨aQ h.row f (λg i=>(h.row.lt g i).2),λx w=>aQ (h.aK x w) f (λg i=>((h.aK x w).lt g i).2)⟩
def bE:P9->B8->Option Nat
 | [],_=>G
 |x::r,k=>if x.1.toList==k.toList then P x.2 else bE r k
def CQ(a:B8):∀(l:P9)(k:Nat),(ij a l k<0↔bE l a=G)/\(0<=ij a l k->bE l a=P (l.getD (ij a l k-k).toNat (a,0)).2)
 | [],k=>by simp[ij,bE]
 |x::r,k=>by
  unfold ij bE
  by_cases h:(x.1.toList==a.toList)=Bt
  .rw[aD h,aD h];refine⟨oS,λ_=>?_⟩;simp
  rw[aB h,aB h];obtain⟨l,b⟩:=CQ a r (k+1);refine⟨l,λe=>?_⟩;rw[b e];have:=(Fl a r (k+1) e).1;have e:(ij a r (k+1)-(k:Int)).toNat=(ij a r (k+1)-((k+1:Nat):Int)).toNat+1:=O
  rw[e];simp
def vR(b a n):jg b a n=match bE b a with|none=>Bt|some m=>m==n:=by
 obtain⟨c,d⟩:=CQ a b 0;unfold jg aL
 by_cases h:ij a b 0<0
 .rw[aD h,c.1 h]
 rw[aB h,d O];simp only[Int.natCast_zero,Int.sub_zero];rw[oX];simp;omega
def YN(a b n):jh a b n=if(bE a b).isNone then a++[(b,n)] else a:=by
 obtain⟨c,d⟩:=CQ b a 0;unfold jh aL
 by_cases h:ij b a 0<0
 .rw[aD h,c.1 h];rfl
 rw[aB h,d O];rfl
def Jt(a b n k):bE (a++[(b,n)]) k=match bE a k with|some m=>P m|none=>if b.toList==k.toList then P n else none:=by
 induction a with
 |nil=>rfl
 |cons x r c=>
  rw[jA,bE,bE]
  split
  .rfl
  exact c
def nF(ps:P9):B8->Option V9:=λk=>(bE ps k).map λn=>I J n
def TG(b a n)(h:jg b a n=Bt):tY (nF b) a (I J n)=nF (jh b a n):=by
 funext k
 rw[vR]at h;rw[YN]
 by_cases e:k=a
 .subst e;rw[xR];unfold nF
  cases c:bE b k with
  |none=>rw[aD (by rfl),Jt,c];simp
  |some m=>rw[c]at h;simp at h;rw[aB oS,c,h];rfl
 rw[wm e];unfold nF
 cases c:bE b a with
 |none=>
  rw[aD (by rfl),Jt];have:¬(a.toList==k.toList)=true:=λh=>e ((kJ.1 h).symm)
  cases bE b k with
  |none=>simp only[aB this]
  |some m=>rfl
 |some m=>rw[aB oS]
def qK:List bW->P9->Int
 | [],_=>-1
 |M::r,ps=>if jg ps M.pd (Z M.ts) then qK r (jh ps M.pd (Z M.ts)) else M.place
def ajS(h:a<Z d)(b):qK ((d.map (·.1)).drop a) b=if jg b d[a].1.pd d[a].1.ts.length then qK ((d.map (·.1)).drop (a+1)) (jh b d[a].1.pd d[a].1.ts.length) else d[a].1.place:=by rw[dM (oU h),qK];simp
def sC(x:Int):Ending:=Vr (Vt #[I J (if 0<=x then x else 0),Vb (decide (0<=x))])
structure yk(w:W8)(base:Nat)(mv:V9)(ms:List (bW×V9))(V:B8->Option V9)(k:Nat)(wr:W8):Prop where
 gG:gv wr base mv ms
 map:dt prog 9 wr (F (X w)+1) k V
 ai:Below (F (X w)) w wr
variable {g:B8->Option V9}
def yk.alloc(h:yk c a b d g f e)(o):yk c a b d g f (Al e o):=
 ⟨h.gG.ai oA,h.map.alloc o,h.ai.alloc h.ai.size _⟩
def yk.put{w a l j V m k o wr c}(h:yk w a l j V k wr)(p:dt prog 9 c (F (X w)+1) o m)(b:wr.grownBy c (P (F (X w)+1)))(i:∀g,l.ownBlock=P g->g<F (X w))(f:∀x∈j,∀g,x.2.ownBlock=P g->g<F (X w)):yk w a l j m o c:=by
 have q:=h.ai.size;have d:∀g,g<F (X w)->c.heap[g]?=wr.heap[g]?:=λg e=>b.block g O oT
 refine⟨⟨gC h.gG.row (λg e=>d g (i g e)),λx n=>gC (h.gG.aK x n) (λg e=>d g (f x n g e))⟩,p,h.ai.trans ⟨b.os,b.tape,b.output,b.size,d⟩⟩
def ajR(w f B K D s t a)(h:gv w f (U s (Z a) t) a)(hl:Z a<=1000)(R:∀x∈a,x.1.pd.size<=800):Calls prog 75 #[Va #[U B K D,U s (Z a) t]] w λe T=>e=sC (qK (a.map (·.1)) [])/\Below (F (X w)) w T:=by
 have T:=@run_makeMap prog;have z:=H (λg (e:(U s (Z a) t).ownBlock=P g)=>(h.row.lt g e).2);have y:=H (λx (n:x∈a) g (e:x.2.ownBlock=P g)=>((h.aK x n).lt g e).2);have n:yk w f (U s (Z a) t) a (nF []) 0 (Al (Al w (Vc #[U B K D,U s (Z a) t] 100)) (.map #[] 0)):=by have i:=((aZ (F (X w)) w).alloc L9 (Vc #[U B K D,U s (Z a) t] 100)).alloc oS (.map #[] 0);refine⟨h.ai i,?_,i⟩;have:=dt.made prog 9 (Al w (Vc #[U B K D,U s (Z a) t] 100));rw[bL]at this;exact this
 clear h;go_in;go_wp2
 go_loopg [13] (Z a) (λh i wr=>∃(k:Nat)(e:P9),k<=Z a/\h=Z a-k/\i=I J k/\yk w f (U s (Z a) t) a (nF e) k wr/\qK (a.map (·.1)) []=qK ((a.map (·.1)).drop k) e)
 exact⟨0,[],aI _,rfl,rfl,n,rfl⟩
 case round=>
  clear n;obtain⟨k,e,_,_,rfl,i,n⟩:=hrel;have A:=H n;clear n
  by_cases n:k<Z a
  .have x:=H (A.trans (ajS n e));obtain⟨g,_,W,_,_,_,_,b⟩:=gu Pd i.gG.row k n;injection W with r h2 M
   subst r M;obtain⟨M,N,r⟩:=aF (i.gG.aK _ (aN n));have S:=ej (i.gG.aK _ (aN n));unfold maxLen at S;have q0:=b 0 O;have q1:=b 1 O;have q2:=b 2 O;have q3:=b 3 O;have q4:=b 4 O;have q5:=b 5 O;have q6:=b 6 O;have q7:=b 7 O;have q8:=b 8 O;have q9:=b 9 O;simp only[bW.cells,r,iy,aT,bx]at q0 q1 q2 q3 q4 q5 q6 q7 q8 q9;have V:=R _ (aN n);have l:a[k].1.pd.size<=maxLen:=oM;have q:=i.alloc (Vc #[I J a[k].1.bn,Vb a[k].1.neg,Y a[k].1.pd,U M a[k].1.ts.length N,I J a[k].1.start,I J a[k].1.place,I J (a[k].1.pl 0),I J (a[k].1.pl 1),I J (a[k].1.pl 2),I J (a[k].1.pl 3)] 221);have h:=q.map;have u:=H q;clear b A i q r
   cases r:bE e a[k].1.pd with
   |none=>have q:jg e a[k].1.pd a[k].1.ts.length=true:=(by rw[vR,r]);have d:=H (x.trans (aD q));have L:=H (TG e _ _ q);have E:(nF e a[k].1.pd).getD (I J 0)=I J 0:=(by simp[nF,r]);have b:(nF e a[k].1.pd).isSome=false:=(by simp[nF,r]);clear x q r;go_wp2_with(first|(at_lookup;refine sY _ rfl _ _ 218 rfl 9 3 underlying9 underlying218 (zeroValue3 _) (F (X w)+1) k (nF e) rfl h a[k].1.pd rfl l _ E _ b ?_)|(at_mapUpdate;refine Df _ rfl _ _ _ 218 rfl 9 3 underlying9 underlying218 (F (X w)+1) k (nF e) rfl h oM a[k].1.pd (I J a[k].1.ts.length) (by rfl) (by rfl) l ?_));intro w2 o j;have c:=u.put o j z y;rw[ag L]at c;have v:=H c;clear u o j c h;go_wp2;go_roundg(Z a-(k+1));exact⟨k+1,_,O,rfl,oN,v,d⟩;omega
   |some m=>
    have E:(nF e a[k].1.pd).getD (I J 0)=I J m:=(by simp[nF,r]);have b:(nF e a[k].1.pd).isSome=true:=by simp[nF,r]
    by_cases p:m=a[k].1.ts.length
    .have q:jg e a[k].1.pd a[k].1.ts.length=true:=(by rw[vR,r];simp[p]);have d:=H (x.trans (aD q));have L:=H (TG e _ _ q);have Q:((m:Int) != (a[k].1.ts.length:Int))=false:=(by simp[p]);clear x q r p;go_wp2_with(first|(at_lookup;refine sY _ rfl _ _ 218 rfl 9 3 underlying9 underlying218 (zeroValue3 _) (F (X w)+1) k (nF e) rfl h a[k].1.pd rfl l _ E _ b ?_)|(at_mapUpdate;refine Df _ rfl _ _ _ 218 rfl 9 3 underlying9 underlying218 (F (X w)+1) k (nF e) rfl h oM a[k].1.pd (I J a[k].1.ts.length) (by rfl) (by rfl) l ?_));intro w2 o j;have c:=u.put o j z y;rw[ag L]at c;have v:=H c;clear u o j c h;go_wp2;go_roundg(Z a-(k+1));exact⟨k+1,_,O,rfl,oN,v,d⟩;omega
    have q:jg e a[k].1.pd a[k].1.ts.length=false:=(by rw[vR,r];simp[p]);have d:=H (x.trans (aB (by rw[q];decide)));have Q:((m:Int) != (a[k].1.ts.length:Int))=true:=oT;clear x q r p;go_wp2_with(at_lookup;refine sY _ rfl _ _ 218 rfl 9 3 underlying9 underlying218 (zeroValue3 _) (F (X w)+1) k (nF e) rfl h a[k].1.pd rfl l _ E _ b ?_);go_wp2
    go_ret2
    refine⟨?_,u.ai⟩;rw[ag d];unfold sC;rw[aD O];have:decide (0<=(a[k].1.place:Int))=true:=oS
    rw[this];rfl
  have x:=H (show qK (a.map (·.1)) []=-1 by rw[ag A,gE oT];rfl);have u:=H i;clear A i;go_wp2
  go_ret2
  exact⟨by rw[ag x];rfl,u.ai⟩
def MM(W v):(Instr.typeAssert (.iface 130 v) 191 130 Bt).run prog W=.ok (Vt #[v,Vb Bt]) W:=oK
def TN(W v):(Instr.typeAssert (.iface 193 v) 191 130 Bt).run prog W=.ok (Vt #[Y ⟨#[]⟩,Vb Bf]) W:=oK
def ML(W v):(Instr.typeAssert (.iface 193 v) 191 193 Bt).run prog W=.ok (Vt #[v,Vb Bt]) W:=oK
def mu(v:B8)(ts:List (Bool×B8)):Bool:=ts.any λt=>t.1&&t.2.toList==v.toList
def PI{w b f c}(h:Ow w b 191 1 f (Z c) (jm c))(k)(l:k<Z c):∃g a,f=U (P (C g 0 G)) (Z c) a/\b<=g/\g<F (X w)/\(Z c)<=a/\a<=maxLen/\Ce w (C g k G)=P (nX c[k].1 c[k].2):=by
 rcases h.2 with⟨_,_⟩|⟨g,a,_,rfl,i,j,e,d,_,_⟩
 .omega
 refine⟨g,a,rfl,i,(aM.1 j).1,e,d,?_⟩;rw[h.cellAt k O,jm,gP,dr l];rfl
def agj(w j p v a c b)(h:Ow w j 191 1 (U a (Z b) c) (Z b) (jm b)):Calls prog 221 #[Va #[Y p,U a (Z b) c],Y v] w λe n=>e=Vr (Vb (mu v b))/\Below (F (X w)) w n:=by
 have n:=ej h;unfold maxLen at n;have d:Below (F (X w)) w (Al w (Vc #[Y p,U a (Z b) c] 79)):=B9.alloc L9 _;have q:=aQ h d (λg e=>(h.lt g e).2);clear h;have s:=MM;have r:=TN;have t:=ML;go_in;go_wp2
 go_loop [12] (λi=>∃k:Nat,k<=Z b/\i=I J k/\mu v b=mu v (b.drop k)) (λi=>Z b-(intOf i).toNat)
 exact⟨0,aI _,rfl,rfl⟩
 case round=>
  obtain⟨k,_,rfl,i⟩:=hrel;have m:=H i;clear i
  by_cases l:k<Z b
  .obtain⟨g,_,u,_,_,_,_,f⟩:=PI q k l;injection u with e x i
   subst e i;have e:mu v (b.drop k)=((b[k].1&&b[k].2.toList==v.toList)||mu v (b.drop (k+1))):=Hy l;have i:=H (m.trans e);clear m e
   cases e:b[k].1 with
   |true=>
    rw[e]at f;unfold nX at f;rw[aD rfl]at f
    cases o:b[k].2.toList==v.toList with
    |true=>have h:=H (show mu v b=Bt by rw[ag i,e,o];rfl);clear i e;go_wp2;go_ret;exact⟨by rw[ag h];rfl,d⟩
    |false=>
     have h:=H (show mu v b=mu v (b.drop (k+1)) by rw[ag i,e,o];rfl);clear i e;go_wp2
     go_round
     case rel=>exact⟨k+1,O,oN,h⟩
     case measure=>simp[intOf];omega
   |false=>
    rw[e]at f;unfold nX at f;rw[aB oD]at f;have h:=H (show mu v b=mu v (b.drop (k+1)) by rw[ag i,e];rfl);clear i e;go_wp2
    go_round
    case rel=>exact⟨k+1,O,oN,h⟩
    case measure=>simp[intOf];omega
  have i:=H (show mu v b=Bf by rw[ag m,gE O];rfl);clear m;go_wp2;go_ret;exact⟨by rw[ag i];rfl,d⟩
def nG(x:dd×V9):V8:=[Y x.1.pd,x.2]
def adS(x):(nG x).length=2:=rfl
def FI(x:dd×V9):(x.1.cells x.2).length=3:=rfl
def dJ(b:Bool)(x:dd×V9):Bool:=x.1.neg==b
variable {b f:List (dd×V9)}{c g:V9}{d:W8}
def iR.ai(h:iR d a c f)(b:Below (F (X d)) d e):iR e a c f:=
 ⟨aQ h.row b (λg i=>(h.row.lt g i).2),λx w=>aQ (h.aK x w) b (λg i=>((h.aK x w).lt g i).2)⟩
def ahg:(prog.info? 79).map (λi=>(i.zero,i.size,i.bytes))=P (P (Va #[Y ⟨#[]⟩,U G 0 0]),2,40):=oK
def ajU(a o x j u)(h:(nG x)[j]?=P u):Ce (Al (Al a o) (Vc #[Y x.1.pd,x.2] 79)) (((C (F (X a)+1) 0 G):Addr).add j)=P u:=by
 have e:((C (F (X a)+1) 0 G):Addr).add j=(C (F (X a)+1) j G):=by unfold Addr.add;split<;>simp_all
 rw[e,World.cell?_alloc_at _ _ _ _ oS];simpa[nG]using h
def ajV(L a n c):∀u∈nG (L,U a n c),u.oneCell'=true:=by intro u b;simp[nG]at b;rcases b with rfl|rfl<;>rfl
structure xX(w:W8)(base:Nat)(bv:V9)(ls l:List (dd×V9))(v:V9)(wr:W8):Prop where
 na:iR wr base bv ls
 row:Ow wr (F (X w)+1) 79 2 v (Z l) (l.flatMap nG)
 ai:Below (F (X w)) w wr
 sz:F (X w)<F (X wr)
def xX.alloc(h:xX d a c b f g e)(o):xX d a c b f g (Al e o):=
 have w:=h.sz
 ⟨h.na.ai oA,h.row.alloc o,h.ai.alloc O _,oT⟩
def xX.append{o wr}(h:xX e a c b f g wr)(k:∀x∈b,∀v,x.2.ownBlock=P v->v<F (X e))(j:∀v,c.ownBlock=P v->v<F (X e)){x}(m:Ow d (F (X e)+1) 79 2 o (Z f+1) (f.flatMap nG++nG x))(l:wr.grownBy d g.ownBlock):xX e a c b (f++[x]) o d:=by
 have p:=h.sz;have i:∀v,v<F (X e)->d.heap[v]?=wr.heap[v]?:=λv w=>l.block v O (λw=>by have:=(h.row.lt v w.symm).1;omega)
 refine⟨⟨gC h.na.row (λv w=>i v (j v w)),λy n=>gC (h.na.aK y n) (λv w=>i v (k y n v w))⟩,?_,h.ai.trans ⟨l.os,l.tape,l.output,l.size,i⟩,by have:=l.size;omega⟩;simpa using m
def QU{α:Type}{f:α->Bool}{l}(h:a<Z l):(l.take (a+1)).filter f=(l.take a).filter f++(if f l[a] then [l[a]] else []):=by
 rw[jr h,LP]
 congr 1
 cases k:f l[a]<;>simp[k]
def TS(w f Q B N D n o b d)(h:iR w f (U n (Z b) o) b)(hl:Z b<=1000):Calls prog 217 #[Va #[Y Q,U B N D,U n (Z b) o],Vb d] w λe K=>∃a c,e=Vr (U a (b.filter (dJ d)).length c)/\Ow K (F (X w)+1) 79 2 (U a (b.filter (dJ d)).length c) (b.filter (dJ d)).length ((b.filter (dJ d)).flatMap nG)/\Below (F (X w)) w K/\(F (X w))<F (X K):=by
 obtain⟨i0,V,K,L,M⟩:=info_parts ahg;have t:=H (λg (e:(U n (Z b) o).ownBlock=P g)=>(h.row.lt g e).2);have z:=H (λx (q:x∈b) g (e:x.2.ownBlock=P g)=>((h.aK x q).lt g e).2);have x:=(aZ (F (X w)) w).alloc L9 (Vc #[Y Q,U B N D,U n (Z b) o] 123);have l:xX w f (U n (Z b) o) b [] (U G 0 0) (Al w (Vc #[Y Q,U B N D,U n (Z b) o] 123)):=⟨h.ai x,dm _ _ _ _,x,oS⟩;clear h x;go_in;go_wp2
 go_loopg [5,11] (Z b) (λx v i wr=>∃k:Nat,k<=Z b/\x=Z b-k/\i=I J k/\xX w f (U n (Z b) o) b ((b.take k).filter (dJ d)) v wr)
 exact⟨0,aI _,rfl,rfl,l⟩
 case round=>
  clear l;obtain⟨k,_,_,rfl,v⟩:=hrel;obtain⟨_,_,rfl⟩:=aF v.row
  by_cases l:k<Z b
  .obtain⟨g,_,W,_,_,_,_,r⟩:=gu FI v.na.row k l;injection W with h h2 j
   subst h j;obtain⟨h,x,j⟩:=aF (v.na.aK _ (aN l));have q0:=r 0 O;have q1:=r 1 O;have q2:=r 2 O;simp only[dd.cells,j,iy,aT,bx]at q0 q1 q2;have p:=v.alloc (Vc #[Vb b[k].1.neg,Y b[k].1.pd,U h b[k].1.ts.length x] 183);have T:((b.take k).filter (dJ d)).length<=1000:=bf (qU _ _) oT;have E:=p.sz;rw[bL]at E;clear r
   cases R:(b[k].1.neg==d) with
   |true=>
    have r:dJ d b[k]=true:=R;have A:=H (QU (f:=dJ d) l);have q:b[k]=(b[k].1,U h b[k].1.ts.length x):=(by rw[<-j]);have S:=H q;have u:=H r;have a:=(p.alloc (Vc #[Y b[k].1.pd,U h b[k].1.ts.length x] 79)).row;have m:=H (p.alloc (Vc #[Y b[k].1.pd,U h b[k].1.ts.length x] 79));clear v p j r q;go_wp2_with(at_builtin;refine ka _ rfl _ _ 289 rfl (F (X w)+1) 79 i0 _ 2 40 underlying289 V K L M rfl oD _ _ _ rfl a (C (F (X wr)+1) 0 G) 1 1 (nG (b[k].1,U h b[k].1.ts.length x)) rfl rfl (ajU wr _ (b[k].1,U h b[k].1.ts.length x)) (ajV _ _ _ _) oM O oT ?_);intro v5 w5 i s q;clear q;obtain⟨_,_,rfl⟩:=aF i;have q:=m.append z t i s;have y:=H q;clear i s a q m;go_wp2;go_roundg(Z b-(k+1))
    case measure=>omega
    case rel=>refine⟨k+1,O,rfl,oN,?_⟩;rw[ag A,aD (ag u),ag S];exact y
   |false=>have r:dJ d b[k]=false:=R;have A:=H (show(b.take (k+1)).filter (dJ d)=(b.take k).filter (dJ d) by rw[QU l,r];simp);have m:=H p;clear v p r j;go_wp2;go_roundg(Z b-(k+1));exact⟨k+1,O,rfl,oN,by rw[ag A];exact m⟩;omega
  have e:(b.take k).filter (dJ d)=b.filter (dJ d):=by rw[j7 O]
  rw[e]at v⊢;have m:=H v;clear v;go_wp2;go_ret;exact⟨_,_,rfl,m.row,m.ai,m.sz⟩
def FL(w d l i k j f g b)(h:iR w d (U f (Z b) g) b)(o:Z b<=1000):Calls prog 164 #[Va #[Y l,U i k j,U f (Z b) g]] w λe m=>∃a c,e=Vr (U a (b.filter (dJ Bf)).length c)/\Ow m (F (X w)+1) 79 2 (U a (b.filter (dJ Bf)).length c) (b.filter (dJ Bf)).length ((b.filter (dJ Bf)).flatMap nG)/\Below (F (X w)) w m/\(F (X w))<F (X m):=by have m:=(aZ (F (X w)) w).alloc L9 (Vc #[Y l,U i k j,U f (Z b) g] 123);have n:=h.ai m;clear h;go_in;go_wp2_with fail;refine(TS _ d l i k j f g b Bf n o).mono ?_;rintro e r⟨a,c,rfl,p,h,q⟩;go_wp2;go_ret;refine⟨a,c,rfl,aX p oS,m.trans (h.mono oS),by simp at q;omega⟩
def B0(v:B8)(ls:List dd):Bool:=(ls.filter λl=>l.neg==Bf).any λl=>mu v l.ts
def ae4(w b L v B K D r t f)(h:iR w b (U r (Z f) t) f)(Q:Z f<=1000):Calls prog 176 #[Va #[Y L,U B K D,U r (Z f) t],Y v] w λe i=>e=Vr (Vb (B0 v (f.map (·.1))))/\Below (F (X w)) w i:=by
 have i:=(aZ (F (X w)) w).alloc L9 (Vc #[Y L,U B K D,U r (Z f) t] 123);have q:=h.ai i;have E:(f.filter (dJ Bf)).length<=1000:=bf (qU _ _) Q;have a:∀x∈f.filter (dJ Bf),Ow w b 191 1 x.2 x.1.ts.length (jm x.1.ts):=λx c=>h.aK x (gI.1 c).1
 have c:B0 v (f.map (·.1))=(f.filter (dJ Bf)).any λx=>mu v x.1.ts:=by unfold B0;rw[LQ,LK];rfl
 rw[c];have k:=FL _ b L B K D r t f q Q;obtain⟨l,g⟩:∃l,f.filter (dJ Bf)=l:=⟨_,rfl⟩;rw[g]at E a k⊢;have y:=H a;clear h c a g;go_in;go_wp2_with fail;refine k.mono ?_;rintro e T⟨a,c,rfl,g,j,h⟩;have n:Below (F (X w)) w T:=i.trans (j.mono oS);rw[bL]at g h;clear q j i k;go_wp2
 go_loopg [10] (Z l) (λq i wr=>∃k:Nat,k<=Z l/\q=Z l-k/\i=I J k/\Ow wr (F (X w)+1+1) 79 2 (U a (Z l) c) (Z l) (l.flatMap nG)/\Below (F (X w)) w wr/\(F (X w))<F (X wr)/\(l.any λx=>mu v x.1.ts)=(l.drop k).any λx=>mu v x.1.ts)
 exact⟨0,aI _,rfl,rfl,g,n,O,rfl⟩
 case round=>
  clear g n h;obtain⟨k,_,_,rfl,g,j,_,i⟩:=hrel;have q:=H i;clear i
  by_cases n:k<Z l
  .obtain⟨_,_,R,_,_,_,_,u⟩:=gu adS g k n;injection R with i W m
   subst i m;have i:=ag y _ (aN n);obtain⟨o,p,m⟩:=aF i;have M:=u 0 O;have N:=u 1 O;simp only[nG,m,iy,aT,bx]at M N;rw[m]at i;have s:=(aZ (F (X wr)) wr).alloc L9 (Vc #[Y l[k].1.pd,U o l[k].1.ts.length p] 79);have h:=aQ i (j.trans (s.mono O)) (λx e=>(i.lt x e).2);have d:=H (q.trans (Hy n));have z:=H g;clear u q i m g;go_wp2_with fail;refine(agj _ b l[k].1.pd v o p l[k].1.ts h).mono ?_;rintro e V⟨rfl,m⟩;have i:Below (F (X wr)) wr V:=s.trans (m.mono oS);have S:=i.size
   cases u:mu v l[k].1.ts with
   |true=>have g:=H (show(l.any λx=>mu v x.1.ts)=Bt by rw[ag d,u];rfl);clear d u M N h m s;go_wp2;go_ret;exact⟨by rw[ag g];rfl,j.trans (i.mono O)⟩
   |false=>have g:=H (show(l.any λx=>mu v x.1.ts)=(l.drop (k+1)).any λx=>mu v x.1.ts by rw[ag d,u];rfl);have A:=H (aQ z i (λx e=>(z.lt x e).2));clear d u M N h m s z;go_wp2;go_roundg(Z l-(k+1));exact⟨k+1,O,rfl,oN,A,j.trans (i.mono O),O,g⟩;omega
  have d:=H (show(l.any λx=>mu v x.1.ts)=Bf by rw[ag q,gE O];rfl);clear q;go_wp2;go_ret;exact⟨by rw[ag d];rfl,j⟩
def kY(ls:List dd):List (Bool×B8)->Nat->Option Nat
 | [],_=>G
 |t::r,k=>if t.1&&!B0 t.2 ls then P k else kY ls r (k+1)
def Vf(x:Option Nat):Ending:=Vr (Vt #[I J (x.getD 0),Vb x.isSome])
variable {g:List dd}
def ai8{b}(h:a<Z b):kY g (b.drop a) a=if b[a].1&&!B0 b[a].2 g then P a else kY g (b.drop (a+1)) (a+1):=by rw[dM h,kY]
def aic(w f D j a c b r u s m n d)(i:Ow w f 191 1 (U a (Z b) c) (Z b) (jm b))(h:iR w f (U m (Z d) n) d)(hl:Z d<=1000):Calls prog 118 #[Va #[Y D,U a (Z b) c],Va #[Y j,U r u s,U m (Z d) n]] w λe L=>e=Vf (kY (d.map (·.1)) b 0)/\Below (F (X w)) w L:=by
 have L:=ej i;unfold maxLen at L;have v:=((aZ (F (X w)) w).alloc L9 (Vc #[Y D,U a (Z b) c] 79)).alloc oS (Vc #[Y j,U r u s,U m (Z d) n] 123);have p:(Al (Al w (Vc #[Y D,U a (Z b) c] 79)) (Vc #[Y j,U r u s,U m (Z d) n] 123)).heap[F (X w)+1]?=P (Vc #[Y j,U r u s,U m (Z d) n] 123):=by have:=aG (Al w (Vc #[Y D,U a (Z b) c] 79)) (Vc #[Y j,U r u s,U m (Z d) n] 123);rw[bL]at this;exact this
 have o:=h.ai v;have t:=aQ i v (λg e=>(i.lt g e).2);clear h i;have hay:=MM;have han:=TN;have hnn:=ML;go_in;go_wp2
 go_loopg [13] (Z b) (λh i wr=>∃k:Nat,k<=Z b/\h=Z b-k/\i=I J k/\iR wr f (U m (Z d) n) d/\Ow wr f 191 1 (U a (Z b) c) (Z b) (jm b)/\Below (F (X w)) w wr/\(F (X w))+1<F (X wr)/\wr.heap[F (X w)+1]?=P (Vc #[Y j,U r u s,U m (Z d) n] 123)/\kY (d.map (·.1)) b 0=kY (d.map (·.1)) (b.drop k) k)
 exact⟨0,aI _,rfl,rfl,o,t,v,oS,p,rfl⟩
 case round=>
  clear o t v p;obtain⟨k,_,_,rfl,v,t,A,S,p,i⟩:=hrel;have z:=H i;clear i
  by_cases y:k<Z b
  .obtain⟨g,_,hv,_,_,_,_,x⟩:=PI t k y;injection hv with o h2 i
   subst o i;have i:=H (z.trans (ai8 y));clear z
   cases o:b[k].1 with
   |true=>
    rw[o]at x;unfold nX at x;rw[aD rfl]at x;obtain⟨T,N⟩:=aj p 0;obtain⟨V,Q⟩:=aj p 1;obtain⟨W,R⟩:=aj p 2;have M:=H p;clear p;go_wp2_with fail;refine(ae4 wr f j b[k].2 r u s m n d v hl).mono ?_;rintro e w2⟨rfl,h⟩;have cB:=h.size
    cases B:B0 b[k].2 (d.map (·.1)) with
    |false=>
     have l:=H (show kY (d.map (·.1)) b 0=P k by rw[ag i,o,B];rfl);clear i o B T V W N Q R;go_wp2
     go_ret2
     exact⟨by rw[ag l];rfl,A.trans (h.mono O)⟩
    |true=>have l:=H (show kY (d.map (·.1)) b 0=kY (d.map (·.1)) (b.drop (k+1)) (k+1) by rw[ag i,o,B];rfl);have E:=H (v.ai h);have K:=H (aQ t h (λg e=>(t.lt g e).2));have q:=H ((h.block _ S).trans M);clear i o B T V W N Q R v t M;go_wp2;go_roundg(Z b-(k+1));exact⟨k+1,O,rfl,oN,E,K,A.trans (h.mono O),O,q,l⟩;omega
   |false=>rw[o]at x;unfold nX at x;rw[aB oD]at x;have l:=H (show kY (d.map (·.1)) b 0=kY (d.map (·.1)) (b.drop (k+1)) (k+1) by rw[ag i,o];rfl);have E:=H v;have K:=H t;have q:=H p;clear i o v t p;go_wp2;go_roundg(Z b-(k+1));exact⟨k+1,O,rfl,oN,E,K,A,S,q,l⟩;omega
  have i:=H (show kY (d.map (·.1)) b 0=G by rw[ag z,gE O];rfl);clear z v t p;go_wp2
  go_ret2
  exact⟨by rw[ag i];rfl,A⟩
def yE(rs:List iu)(n:Nat):List dd:=match rs[n]? with|some R=>R.body|none=>[]
def qP(rs:List iu):List bW->Int
 | []=>-1
 |M::r=>match kY (yE rs M.bn) M.ts 0 with|some i=>(M.pl i:Int)|none=>qP rs r
variable {c:List (bW×V9)}
def anO{b}(h:a<Z c):qP b ((c.map (·.1)).drop a)=match kY (yE b c[a].1.bn) c[a].1.ts 0 with|some i=>(c[a].1.pl i:Int)|none=>qP b ((c.map (·.1)).drop (a+1)):=by rw[dM (oU h),qP];simp
def YA :∀{h:List (Bool×B8)} {k i:Nat},kY g h k=P i->i<k+Z h
 | [],k,i,h=>by simp[kY]at h
 |t::r,k,i,h=>by
  unfold kY at h
  split at h
  .injection h with h;subst h;simp
  have:=YA h;simp;omega
variable {b f:W8}
def l6.ai{r}(h:l6 b a r)(w:Below (F (X b)) b f):l6 f a r:=
 ⟨aQ h.hd w (λg e=>(h.hd.lt g e).2),h.bo.ai w,h.eq⟩
variable {d:List PR}{e h:V9}
def gi.ai(h:gi b a e d)(w:Below (F (X b)) b f):gi f a e d:=
 ⟨aQ h.row w (λg c=>(h.row.lt g c).2),λr c=>(h.aK r c).ai w⟩
def AG(r:PR):Z r.cells=3:=rfl
structure uv(w:W8)(base:Nat)(rv mv:V9)(rs:List PR)(ms:List (bW×V9))(wr:W8):Prop where
 bB:gi wr base rv rs
 gG:gv wr base mv ms
 box:wr.heap[F (X w)]?=P (Vc #[rv,mv] 100)
 ai:Below (F (X w)) w wr
 sz:F (X w)<F (X wr)
def uv.next{g}(wr:uv b a e h d c f)(w:Below (F (X f)) f g):uv b a e h d c g:=
 have i:=wr.sz;have j:=w.size
 ⟨wr.bB.ai w,wr.gG.ai w,(w.block _ i).trans wr.box,wr.ai.trans (w.mono O),O⟩
def uv.start(w:gi b a e d)(g:gv b a h c):uv b a e h d c (Al b (Vc #[e,h] 100)):=
 have f:=(aZ (F (X b)) b).alloc L9 (Vc #[e,h] 100)
 ⟨w.ai f,g.ai f,aG b _,f,oS⟩
def iR.drew{w a b c}(h:iR w a b c):iR w.drew a b c:=⟨h.row.drew,λx d=>(h.aK x d).drew⟩
def anP(w c M D b L B a)(h:gi w c (U M (Z b) D) b)(i:gv w c (U L (Z a) B) a)(hl:Z a<=1000)(hn:∀x∈a,x.1.bn<Z b/\x.1.ts.length<=4)(N:∀r∈b,Z r.bs<=1000):Calls prog 76 #[Va #[U M (Z b) D,U L (Z a) B]] w λe m=>e=sC (qP (b.map (·.R)) (a.map (·.1)))/\Below (F (X w)) w m:=by
 have m:=uv.start h i;have R:=ej h.row;unfold maxLen at R;clear h i;go_in;go_wp2
 go_loopg [11] (Z a) (λh i wr=>∃k:Nat,k<=Z a/\h=Z a-k/\i=I J k/\uv w c (U M (Z b) D) (U L (Z a) B) b a wr/\qP (b.map (·.R)) (a.map (·.1))=qP (b.map (·.R)) ((a.map (·.1)).drop k))
 exact⟨0,aI _,rfl,rfl,m,rfl⟩
 case round=>
  clear m;obtain⟨k,_,_,rfl,h,m⟩:=hrel;have A:=H m;clear m
  by_cases m:k<Z a
  .have r:=H (A.trans (anO m));obtain⟨g,_,hv,_,_,_,_,l⟩:=gu Pd h.gG.row k m;injection hv with f h2 j
   subst f j;obtain⟨f,j,t⟩:=aF (h.gG.aK _ (aN m));have q0:=l 0 O;have q1:=l 1 O;have q2:=l 2 O;have q3:=l 3 O;have q4:=l 4 O;have q5:=l 5 O;have q6:=l 6 O;have q7:=l 7 O;have q8:=l 8 O;have q9:=l 9 O;simp only[bW.cells,t,iy,aT,bx]at q0 q1 q2 q3 q4 q5 q6 q7 q8 q9;obtain⟨d,_⟩:=hn _ (aN m);obtain⟨gr,_,S,_,_,_,_,n⟩:=gu AG h.bB.row a[k].1.bn d;injection S with o h5 y
   subst o y;have o:=h.bB.aK _ (aN d);obtain⟨ah,ch,y⟩:=aF o.hd;obtain⟨ab,cb,s⟩:=aF o.bo.row;have r0:=n 0 O;have r1:=n 1 O;have r2:=n 2 O;simp only[PR.cells,y,s,iy,aT,bx]at r0 r1 r2;obtain⟨x0,T⟩:=aj h.box 0;have V:=(aZ (F (X wr)) wr).alloc L9 (Vc #[I J a[k].1.bn,Vb a[k].1.neg,Y a[k].1.pd,U f a[k].1.ts.length j,I J a[k].1.start,I J a[k].1.place,I J (a[k].1.pl 0),I J (a[k].1.pl 1),I J (a[k].1.pl 2),I J (a[k].1.pl 3)] 221);have E:=h.next V;have z:(Al wr (Vc #[I J a[k].1.bn,Vb a[k].1.neg,Y a[k].1.pd,U f a[k].1.ts.length j,I J a[k].1.start,I J a[k].1.place,I J (a[k].1.pl 0),I J (a[k].1.pl 1),I J (a[k].1.pl 2),I J (a[k].1.pl 3)] 221)).heap[F (X wr)]?=_:=aG wr _;have x:yE (b.map (·.R)) a[k].1.bn=b[a[k].1.bn].bs.map (·.1):=by unfold yE;rw[gP,dr d];exact o.eq.symm
   rw[x]at r;have q:=E.gG.aK _ (aN m);rw[t]at q;have p:=(E.bB.aK _ (aN d)).bo;rw[s]at p;have K:=H (λ(W:W8)(hW:Below (Al wr (Vc #[I J a[k].1.bn,Vb a[k].1.neg,Y a[k].1.pd,U f a[k].1.ts.length j,I J a[k].1.start,I J a[k].1.place,I J (a[k].1.pl 0),I J (a[k].1.pl 1),I J (a[k].1.pl 2),I J (a[k].1.pl 3)] 221)).heap.size (Al wr (Vc #[I J a[k].1.bn,Vb a[k].1.neg,Y a[k].1.pd,U f a[k].1.ts.length j,I J a[k].1.start,I J a[k].1.place,I J (a[k].1.pl 0),I J (a[k].1.pl 1),I J (a[k].1.pl 2),I J (a[k].1.pl 3)] 221)) W)=>(And.intro (E.next hW) ((hW.block (F (X wr)) oS).trans z)));have Q:=N _ (aN d);have v:=H q.drew;have u:=H p.drew;have hsz:=h.sz;clear l n A h E t o y s x z q p V;go_wp2_with fail;go_upto_region 4 with fail
   go_cut [6,7] (λV p wc=>V=I J ((kY (b[a[k].1.bn].bs.map (·.1)) a[k].1.ts 0).getD 0)/\p=Vb (kY (b[a[k].1.bn].bs.map (·.1)) a[k].1.ts 0).isSome/\uv w c (U (P (C gr 0 G)) (Z b) D) (U (P (C g 0 G)) (Z a) B) b a wc/\wc.heap[F (X wr)]?=P (Vc #[I J a[k].1.bn,Vb a[k].1.neg,Y a[k].1.pd,U f a[k].1.ts.length j,I J a[k].1.start,I J a[k].1.place,I J (a[k].1.pl 0),I J (a[k].1.pl 1),I J (a[k].1.pl 2),I J (a[k].1.pl 3)] 221))
   case first=>
    go_region_with(go_at_call 118;refine(aic _ c a[k].1.pd b[a[k].1.bn].R.pd f j a[k].1.ts ah b[a[k].1.bn].R.ts.length ch ab cb b[a[k].1.bn].bs v u Q).mono ?_;rintro e p⟨x,o⟩;unfold Vf at x;subst x)
    all_goals
     go_wp2;go_meet
     case rel=>exact⟨rfl,rfl,(K p (Below.B4 o)).1,(K p (Below.B4 o)).2⟩
   case rest=>
    obtain⟨rfl,rfl,o,x⟩:=hcut;have p:=H o;have V:=o.sz;clear o q0 q1 q2 q3 q4 q5 q6 q7 q8 q9 r0 r1 r2 x0 T K v u
    cases u:kY (b[a[k].1.bn].bs.map (·.1)) a[k].1.ts 0 with
    |none=>rw[u]at r;clear u;have o:=H r;clear r;go_wp2;go_roundg(Z a-(k+1));exact⟨k+1,O,rfl,oN,p,o⟩;omega
    |some i=>
     have K:i<4:=(oF (YA u));rw[u]at r;clear u;have u:i=0\/i=1\/i=2\/i=3:=O;have T:=(aj x 6).1;have q:=(aj x 7).1;have z:=(aj x 8).1;have s:=(aj x 9).1;have v:=r;have o:=H v;clear r v x;rcases u with rfl|rfl|rfl|rfl
     all_goals
      go_wp2
      go_ret2
      refine⟨?_,p.ai⟩;rw[ag o];unfold sC;rw[aD O];simp
  have r:=H (show qP (b.map (·.R)) (a.map (·.1))=-1 by rw[ag A,gE oT];rfl);have d:=H h;clear A h;go_wp2
  go_ret2
  exact⟨by rw[ag r];rfl,d.ai⟩
def akH(s f):∀{p:Nat} {l:List (Bool×B8)} {pl:Nat->Nat},(dT s f p l pl).2.2.1.length<=Z l+f:=by
 induction f with
 |zero=>intro p l pl;simp[dT]
 |succ f a=>
  intro p l pl;rw[dT]
  split
  .split
   .refine bf a ?_;first|(simp;done)|(simp;omega)
   first|(simp;done)|(simp;omega)
  first|(simp;done)|(simp;omega)
variable {b:Nat}
def FD{s q f g k}(h:ik s b=.yes q f g k):f.size<=s.size/\(Z g)<=4:=by
 unfold ik at h
 by_cases c:(aE s b).1=2
 .rw[aD c]at h
  by_cases d:(aE s (aE s b).2.2).1=5
  .rw[aD d]at h
   by_cases e:(dT s 4 (aE s (aE s b).2.2).2.2 [] (λ_=>0)).1=Bt
   .rw[aD e]at h;injection h with i a p j
    subst a p;refine⟨JR s b,?_⟩;have:=akH s 4 (p:=(aE s (aE s b).2.2).2.2) (l:=[]) (pl:=λ_=>0);simpa using this
   rw[aB e]at h;cases h
  rw[aB d]at h;injection h with i a p j
  subst a p;exact⟨JR s b,oS⟩
 rw[aB c]at h;cases h
def yy(s:B8)(M:bW):Prop:=M.pd.size<=s.size/\(Z M.ts)<=4
def Hg(s:B8)(L:dd):Prop:=L.pd.size<=s.size
def Ml(s:B8)(R:iu):Prop:=R.pd.size<=s.size/\(Z R.body)<=3/\∀l∈R.body,Hg s l
def ak5(s d f):∀{p:Nat} {l:List dd} {e:List bW},(∀x∈l,Hg s x)->(∀M∈e,yy s M)->(jR s d f p l e).2.2.1.length<=Z l+f/\(∀x∈(jR s d f p l e).2.2.1,Hg s x)/\(∀M∈(jR s d f p l e).2.2.2,yy s M):=by
 induction f with
 |zero=>intro p l e i j;exact⟨by simp[jR],i,j⟩
 |succ f r=>
  intro p l e i j;rw[jR]
  cases o:ik s (bR s p 4) with
  |no q=>exact⟨oS,i,j⟩
  |yes q m n u=>
   obtain⟨k,t⟩:=FD o;have g:∀x∈l++[qM s p m n],Hg s x:=λx a=>by
    rcases aS.1 a with a|a
    .exact i x a
    simp at a;subst a;exact k
   have h:∀M∈e++[uM s d p m n u],yy s M:=λx a=>by
    rcases aS.1 a with a|a
    .exact j x a
    simp at a;subst a;exact⟨k,t⟩
   simp only
   split
   .obtain⟨a,b,c⟩:=r (p:=(aE s q).2.2) g h;refine⟨bf a ?_,b,c⟩
    first|(simp;done)|(simp;omega)
   exact⟨by first|(simp;done)|(simp;omega),g,h⟩
variable {a:List bW}
def akv(s d p)(h:∀M∈a,yy s M):Ml s (iC s d p a).2.2.1/\∀M∈(iC s d p a).2.2.2,yy s M:=by
 unfold iC
 cases i:ik s p with
 |no q=>exact⟨⟨aI _,oS,oS⟩,h⟩
 |yes q k m l=>
  obtain⟨g,j⟩:=FD i;have e:∀M∈a++[pR s d p k m l],yy s M:=λx M=>by
   rcases aS.1 M with M|M
   .exact h x M
   simp at M;subst M;exact⟨g,j⟩
  simp only
  split
  .exact⟨⟨g,oS,oS⟩,e⟩
  split
  .obtain⟨f,b,c⟩:=ak5 s d 3 (p:=(aE s q).2.2) (l:=[]) oS e;exact⟨⟨g,by simpa using f,b⟩,c⟩
  exact⟨⟨g,oS,oS⟩,e⟩
def akA(s f):∀{p:Nat} {rs:List iu} {ms:List bW},(∀R∈rs,Ml s R)->(∀M∈ms,yy s M)->(∀R∈(mA s f p rs ms).2.2.1,Ml s R)/\(∀M∈(mA s f p rs ms).2.2.2,yy s M):=by
 induction f with
 |zero=>intro p rs ms a b;exact⟨a,b⟩
 |succ f d=>
  intro p rs ms a b;obtain⟨e,c⟩:=akv s (Z rs) p b;rw[mA]
  split
  .exact⟨a,b⟩
  split
  .exact⟨a,b⟩
  split
  .refine d (λR M=>?_) c;rcases aS.1 M with M|M
   .exact a R M
   simp at M;subst M;exact e
  exact⟨a,c⟩
def anl{c}(h:oj b c a):∀M∈a,b<=M.bn/\M.bn<b+Z c:=by
 induction h with
 |nil b=>simp
 |cons h t d=>
  intro M n;rcases aS.1 n with n|n
  .obtain⟨_,_,e,f⟩:=h;rw[<-e]at n;obtain⟨x,h,rfl⟩:=aU.1 n;have:=(f x h).bn;simp;omega
  have:=d M n;simp;omega
def ZL(s)(d:s.size<=800)(h:(dL s).1=Bt):(∀R∈(dL s).2.2.1,R.pd.size<=800/\(Z R.body)<=3/\∀l∈R.body,l.pd.size<=800)/\(∀M∈(dL s).2.2.2,M.pd.size<=800/\(Z M.ts)<=4/\M.bn<(dL s).2.2.1.length):=by
 obtain⟨j,k⟩:=akA s 31 (p:=0) (rs:=[]) (ms:=[]) oS oS;obtain⟨_,f,g⟩:=(JE s).1 h;refine⟨λR i=>?_,λM e=>?_⟩
 .obtain⟨a,b,c⟩:=j R i;exact⟨bf a d,b,λl i=>bf (c l i) d⟩
 obtain⟨a,b⟩:=k M e;have:=(anl g M e).2;rw[f];exact⟨bf a d,b,by simpa using this⟩
end Go.Proofs.YtldkpahaocjdpaaGreat
