/-
  The reference's Print.
-/
import Derived.Test.YtldkpahaocjdpaaGreatA14
import Derived.Sort.LoopGhostIn
import Derived.Test.YtldkpahaocjdpaaGreatA09
set_option maxHeartbeats 16000000
set_option maxRecDepth 1000000
namespace Go.Proofs.YtldkpahaocjdpaaGreat
open Go.Value renaming slice->U,int->I,string->Y,bool->Vb,pointer->Vp,agg->Va,tuple->Vt
open Go.IntKind renaming i64->J
open Go.Ending renaming returned->Vr
open Go.Obj renaming cells->Vc
open _root_.Option renaming none->G,some->P
open _root_.Bool renaming true->Bt,false->Bf
open Go.Addr renaming mk->C
open _root_.List renaming length->Z
open Go.World renaming heap->X,alloc->Al,setCell->Sc,cell?->Ce,ownsRow->Ow
open _root_.Array renaming size->F
open Go.Proofs.Tryz
set_option linter.defProp false
section
open Go.RowKit
def C3(rs:List bg):List UInt8:=nr (rs.map fm)
variable {a:Nat}
def alg{k:List (aR×V9)}(h:a<Z k):mO (((k.map (·.1)).map iL).drop a) a=(if a=0 then [32,58,45,32] else [44,32])++((if k[a].1.no then [110,111,116,32] else [])++(fR k[a].1++mO (((k.map (·.1)).map iL).drop (a+1)) (a+1))):=by rw[dM (oU h),mO];simp[sK,iL,fR]
def kc.ai{w i d o c e b g f}(h:kc w a d o c e b g f)(j:Below (F (X w)) w i):kc i a d o c e b g f:=
 h.kept ((ak.refl [] w).bC j) oS
def alr(w o a ps qs rv pv tv sv)(h:kc w o a ps qs rv pv tv sv)(hlen:(C3 (a.map (·.R))).length<=1000000000):Calls prog 83 #[Vp (P (C o 0 G))] w λe i=>∃s,e=Vr (Y s)/\s.data.toList=C3 (a.map (·.R))/\Below (F (X w)) w i:=by
 obtain⟨_,_,rfl⟩:=aF h.bB;have ES:=ej h.bB;unfold maxLen at ES;have HP:=H h;have IU:=h.lt;clear h;go_in;go_wp2
 go_loopg [3,4] (Z a) (λq v i wr=>∃(k:Nat)(s:B8),k<=Z a/\q=Z a-k/\v=Y s/\i=I J k/\Below (F (X w)) w wr/\s.data.toList++nr (((a.map (·.R)).map fm).drop k)=C3 (a.map (·.R)))
 exact⟨0,_,aI _,rfl,rfl,rfl,aZ _ _,by simp[C3]⟩
 case round=>
  obtain⟨k,s,_,_,rfl,rfl,f,K⟩:=hrel;have r:=HP.ai f;have i:=r.c0;have apd:=r.lt;have B:=gQ Z K;simp only[br,mU]at B
  by_cases L:k<Z a
  .have t:nr (((a.map (·.R)).map fm).drop k)=fR a[k].R.ay++(mO ((a[k].R.body).map iL) 0++([46,10]++nr (((a.map (·.R)).map fm).drop (k+1)))):=by
    rw[dM (oU L)];simp[nr,sQ,fm,fR]
   rw[t]at K B;simp only[br,ff,kB]at B;have HM:=H K;clear K t;obtain⟨_,_,hv,_,_,_,_,y,Q,z,c,n,u⟩:=pT r.bB k L;injection hv with t i2 W
   subst t W;have t:=HP.aK _ (aN L);obtain⟨ah,ch,W⟩:=aF t.hd;obtain⟨ab,cb,V⟩:=aF t.bo;have NF:=ej t.bo;unfold maxLen at NF;rw[W]at Q;rw[V]at u;have heq:=t.eq;have j:=t.hd;rw[W]at j;have l:=t.bo;rw[V]at l;have N:=(aZ (F (X wr)) wr).alloc L9 (Vc #[Y a[k].R.ay.ax,U ah a[k].R.ay.aq.length ch,Vb a[k].R.ay.no,I J a[k].R.ay.aC,I J a[k].R.ay.aO,U ab a[k].bs.length cb] 246);have h:(Al wr (Vc #[Y a[k].R.ay.ax,U ah a[k].R.ay.aq.length ch,Vb a[k].R.ay.no,I J a[k].R.ay.aC,I J a[k].R.ay.aO,U ab a[k].bs.length cb] 246)).heap[F (X wr)]?=_:=aG wr _;have XN:=f.size;have D:=f.trans (N.mono XN);have p:=aQ j D (λx e=>(j.lt x e).2);have S:=H t.bl;have T:=H l;rw[heq]at B HM;clear j l t r N;go_wp2_with fail;refine(uP _ (o+1) a[k].R.ay ah ch _ _ _ p O).mono ?_;rintro e w1⟨t,rfl,ht,j⟩;have hts:t.size=(fR a[k].R.ay).length:=(by rw[<-ht,mU]);have N:=pf s t O;have E:=D.trans (j.mono oT);have g:=(j.block (F (X wr)) oS).trans h;have R:=j.size;rw[bL]at R;have EM:=XN;have A:(s++t).data.toList++mO ((a[k].bs.map (·.1)).map iL) 0=s.data.toList++fR a[k].R.ay++mO ((a[k].bs.map (·.1)).map iL) 0:=(by rw[zY,ht]);clear j h D p y Q z c n u i;generalize ap5:F (X wr)=Q at*;go_wp2
   go_loopg [3,6] a[k].bs.length (λq v j u=>∃(D:Nat)(p:B8),D<=a[k].bs.length/\q=a[k].bs.length-D/\v=Y p/\j=I J D/\Below (F (X w)) w u/\Q<F (X u)/\u.heap[Q]?=P (Vc #[Y a[k].R.ay.ax,U ah a[k].R.ay.aq.length ch,Vb a[k].R.ay.no,I J a[k].R.ay.aC,I J a[k].R.ay.aO,U ab a[k].bs.length cb] 246)/\p.data.toList++mO (((a[k].bs.map (·.1)).map iL).drop D) D=s.data.toList++fR a[k].R.ay++mO ((a[k].bs.map (·.1)).map iL) 0)
   exact⟨0,_,aI _,rfl,rfl,rfl,E,O,g,A⟩
   case round=>
    clear A E g R f N;obtain⟨j,p,_,_,rfl,rfl,f,D,h,g⟩:=hrel;obtain⟨x5,E⟩:=aj h 5;have v:=gQ Z g;simp only[br,mU]at v
    by_cases A:j<a[k].bs.length
    .have R:=alg A;rw[R]at g v;simp only[br]at v;have q:=H g;clear g R;have l:=aQ T f (λx e=>(T.lt x e).2);obtain⟨_,_,xw,_,_,_,_,p0,p1,R,p3,p4⟩:=qx l j A;injection xw with u j2 y
     subst u y;obtain⟨y,z,u⟩:=aF (S _ (aN A));rw[u]at p1;have c:=ag S _ (aN A);rw[u]at c;have i:=aQ c f (λx e=>(c.lt x e).2);have n:=f.size;clear l u c
     cases l:a[k].bs[j].1.no with
     |true=>
      rw[l]at R;simp only[l,lM,ff,kB]at v
      cases j with
      |zero=>simp only[lM,ff,kB]at v;have N:=pf p ⟨#[32,58,45,32]⟩ (by rw[xy];omega);have c2:=pf (p++⟨#[32,58,45,32]⟩) ⟨#[110,111,116,32]⟩ (by rw[vu,xy,xy];omega);go_wp2_with fail;refine(uP _ (o+1) a[k].bs[0].1 y z _ _ _ i O).mono ?_;rintro e w2⟨u,rfl,c,x⟩;have d:u.size=(fR a[k].bs[0].1).length:=(by rw[<-c,mU]);have c3:=pf (p++⟨#[32,58,45,32]⟩++⟨#[110,111,116,32]⟩) u (by rw[vu,vu,xy,xy,d];omega);have m:=f.trans (x.mono n);have b:=(x.block Q D).trans h;have M:=x.size;clear x h x5 E p0 p1 R p3 p4 f i;go_wp2;go_roundg(a[k].bs.length-(0+1));exact⟨0+1,_,O,rfl,rfl,oN,m,O,b,by rw[<-ag q];simp[c,l]⟩;omega
      |succ j=>have NY:(((j+1:Nat):Int)==0)=false:=oT;simp only[L4,L8,BJ,pG,ff,kB]at v;have N:=pf p ⟨#[44,32]⟩ (by rw[CK];omega);have c2:=pf (p++⟨#[44,32]⟩) ⟨#[110,111,116,32]⟩ (by rw[vu,CK,xy];omega);go_wp2_with fail;refine(uP _ (o+1) a[k].bs[j+1].1 y z _ _ _ i O).mono ?_;rintro e w2⟨u,rfl,c,x⟩;have d:u.size=(fR a[k].bs[j+1].1).length:=(by rw[<-c,mU]);have c3:=pf (p++⟨#[44,32]⟩++⟨#[110,111,116,32]⟩) u (by rw[vu,vu,CK,xy,d];omega);have m:=f.trans (x.mono n);have b:=(x.block Q D).trans h;have M:=x.size;clear x h x5 E p0 p1 R p3 p4 f i;go_wp2;go_roundg(a[k].bs.length-(j+1+1));exact⟨j+1+1,_,O,rfl,rfl,oN,m,O,b,by rw[<-ag q];simp[c,l]⟩;omega
     |false=>
      rw[l]at R;simp only[l,qi,pG,kB]at v
      cases j with
      |zero=>simp only[lM,ff,kB]at v;have N:=pf p ⟨#[32,58,45,32]⟩ (by rw[xy];omega);go_wp2_with fail;refine(uP _ (o+1) a[k].bs[0].1 y z _ _ _ i O).mono ?_;rintro e w2⟨u,rfl,c,x⟩;have d:u.size=(fR a[k].bs[0].1).length:=(by rw[<-c,mU]);have c3:=pf (p++⟨#[32,58,45,32]⟩) u (by rw[vu,xy,d];omega);have m:=f.trans (x.mono n);have b:=(x.block Q D).trans h;have M:=x.size;clear x h x5 E p0 p1 R p3 p4 f i;go_wp2;go_roundg(a[k].bs.length-(0+1));exact⟨0+1,_,O,rfl,rfl,oN,m,O,b,by rw[<-ag q];simp[c,l]⟩;omega
      |succ j=>have NY:(((j+1:Nat):Int)==0)=false:=oT;simp only[L4,L8,BJ,pG,ff,kB]at v;have N:=pf p ⟨#[44,32]⟩ (by rw[CK];omega);go_wp2_with fail;refine(uP _ (o+1) a[k].bs[j+1].1 y z _ _ _ i O).mono ?_;rintro e w2⟨u,rfl,c,x⟩;have d:u.size=(fR a[k].bs[j+1].1).length:=(by rw[<-c,mU]);have c3:=pf (p++⟨#[44,32]⟩) u (by rw[vu,CK,d];omega);have m:=f.trans (x.mono n);have b:=(x.block Q D).trans h;have M:=x.size;clear x h x5 E p0 p1 R p3 p4 f i;go_wp2;go_roundg(a[k].bs.length-(j+1+1));exact⟨j+1+1,_,O,rfl,rfl,oN,m,O,b,by rw[<-ag q];simp[c,l]⟩;omega
    have b:((a[k].bs.map (·.1)).map iL).drop j=[]:=gE oT;rw[b]at g v;simp only[mO,kO,kB]at g v;have N:=pf p ⟨#[46,10]⟩ (by rw[CK];omega);have q:=H g;clear g b;go_wp2;go_roundg(Z a-(k+1));exact⟨k+1,_,O,rfl,rfl,oN,f,by rw[zY,ag q,<-ag HM];simp⟩;omega
  have b:((a.map (·.R)).map fm).drop k=[]:=gE oT;rw[b]at K;simp only[nr,List.flatMap_nil,kO]at K;have HM:=H K;clear K b r;go_wp2;go_ret;exact⟨s,rfl,HM,f⟩
open Go.Maps
def iI(n m:Nat):List (Fin n):=((List.finRange n).drop m).reverse
def H8(n):iI n n=[]:=by unfold iI;rw[gE oS];rfl
def H9{n m}(h):iI n m=iI n (m+1)++[⟨m,h⟩]:=by unfold iI;rw[dM (oU h),List.reverse_cons];simp
def ae2(n m):(iI n m).length=n-m:=by unfold iI;simp
def ae0(w a n c):Calls prog 68 #[U a n c] w λe b=>e=Vr (.func (.func 107) #[] #[Vp (P (C (F (X w)) 0 G))])/\b=Al w (Vc #[U a n c] 141):=by go_in;go_wp2;go_ret;exact⟨rfl,rfl⟩
def ae1(f n w h D o p a)(s:w.heap[h]?=P (Vc #[U o (Z a) p] 141))(r:Ow w D 148 7 (U o (Z a) p) (Z a) (a.flatMap gy))(m:¬f h)(q:∀g,(U o (Z a) p).ownBlock=P g->¬f g)(hl:Z a<=1000):SeqStopsK Fence.wide n prog 107 #[Vp (P (C h 0 G))] (λx=>#[I J (x.1:Nat),tQ a[x]]) (bU f) (λx=>x=iI (Z a) 0) (λ_=>True) (Z a) w:=by
 intro l x N W d y c v u;have i:=(d.block h (aM.1 s).1).trans s;have b:=aQ r d (λg e=>(r.lt g e).2);have e:=(aj i 0).1;simp only[bt,aT]at e;have A:=H i;have z:=H b;have B:=H v;have t:=H u;have j:=H m;have k:=H q;clear s r v u m q d y c i b;refine callsIn_wide.2 ?_;go_in;go_upto_region 1 with fail;refine(wpIn_wide (n:=2)).1 ?_
 gi_loopg [3] (Z a) (λb i wr=>∃m:Nat,m<=Z a/\b=m/\i=I J ((m:Int)-1)/\x (iI (Z a) m) wr/\bU f W wr)
 exact⟨Z a,bD _,rfl,rfl,by rw[H8];exact t,bU.refl _ _⟩
 case round=>
  clear t e;obtain⟨m,_,_,rfl,t,q⟩:=hrel;have s:=H t;have y:=H q;have e:=(aj (q.cells A j) 0).1;simp only[bt,aT]at e;have i:=q.row z k;clear t q
  cases m with
  |zero=>
   have q:¬(0:Int)<=((0:Nat):Int)-1:=O;clear i e
   gi_wp2
   go_end0;exact⟨⟨_,rfl⟩,.inl s⟩
  |succ q=>
   have r:q<Z a:=O;rw[show(((q+1:Nat):Int)-1)=(q:Int) by omega];obtain⟨g,_,M,_,_,_,_,b⟩:=gu Zy i q r;injection M with e t c
   subst e c;have Q:Ce wr (C g (q*7) G)=P (Y a[q].t.p):=b 0 O;have R:Ce wr (C g (q*7+1) G)=P (Y (bj a[q].t.ts 0)):=b 1 O;have S:Ce wr (C g (q*7+2) G)=P (Y (bj a[q].t.ts 1)):=b 2 O;have T:Ce wr (C g (q*7+3) G)=P (Y (bj a[q].t.ts 2)):=b 3 O;have V:Ce wr (C g (q*7+4) G)=P (Y (bj a[q].t.ts 3)):=b 4 O;have d5:Ce wr (C g (q*7+5) G)=P (I J a[q].s):=b 5 O;have d6:Ce wr (C g (q*7+6) G)=P (I J a[q].h):=b 6 O;have L:(q:Int)<Z a:=O;have K:(0:Int)<=q:=O;obtain⟨E,d,e,c,u,v⟩:=abB (m':=1) (B (iI (Z a) (q+1)) ⟨q,r⟩ wr s (by rw[ae2];omega));clear b i t;have b:(Instr.yield l #[I J (q:Nat),Va #[Y a[q].t.p,Y (bj a[q].t.ts 0),Y (bj a[q].t.ts 1),Y (bj a[q].t.ts 2),Y (bj a[q].t.ts 3),I J a[q].s,I J a[q].h]]).run prog wr=.ok (.round l E d e c) wr:=u;clear u
   gi_wp2_with (refine v.mono ?_;rintro en w5 (⟨rfl,i,u⟩|⟨rfl,i⟩)<;>(have t:=H i;clear i v b))
   .have b:=H u;clear u
    gi_roundg q
    case measure=>omega
    case rel=>refine⟨q,O,rfl,oN,?_,y.trans b⟩;rw[H9 r];exact t
   refine bN (v:=Vt #[]) (results_none results107 _ _ _) rfl ?_;exact⟨⟨_,rfl⟩,.inr ⟨_,trivial,t⟩⟩
def aJ(s:B8):aR:=⟨(az s 0).text,(bA s 0 (-1)).1,Bf,(az s 0).aC,0⟩
def vt(s:B8):Bool:=decide ((bA s 0 (-1)).2.2<0)&&(az s (bA s 0 (-1)).2.1).kind==46
def iZ(ps:P9)(s:B8):Bool:=vt s&&jg ps (az s 0).text (bA s 0 (-1)).1.length
structure Rw(w:W8)(s:B8)(v:V9)(w':W8):Prop where
 ai:Below (F (X w)) w w'
 row:Ow w' (F (X w)) 317 3 v (aJ s).aq.length (cellsOf (aJ s).aq)
def acv(w:W8)(ps:P9)(s:B8)(e:Ending)(w':W8):Prop:=
 ∃v,e=Vr (Vt #[(aJ s).val v,Vb (iZ ps s)])/\Rw w s v w'
variable {a b:W8}
def adL{s}(c:Below (Al b (Vc #[Y s,I .u8 0,Y ⟨#[]⟩,I J 0,I J 0,I J (-1)] 235)).heap.size (Al b (Vc #[Y s,I .u8 0,Y ⟨#[]⟩,I J 0,I J 0,I J (-1)] 235)) a):gF (Sc (Sc (Sc (Sc a (C (F (X b)) 1 G) (I .u8 (az s 0).kind)) (C (F (X b)) 2 G) (Y (az s 0).text)) (C (F (X b)) 3 G) (I J (az s 0).aC)) (C (F (X b)) 4 G) (I J (az s 0).zto)) (F (X b)) s 0 (-1)/\Below (F (X b)) b (Sc (Sc (Sc (Sc a (C (F (X b)) 1 G) (I .u8 (az s 0).kind)) (C (F (X b)) 2 G) (Y (az s 0).text)) (C (F (X b)) 3 G) (I J (az s 0).aC)) (C (F (X b)) 4 G) (I J (az s 0).zto)):=by
 have d:=c.size;simp at d;have x:∀j,Ce a (C (F (X b)) j G)=#[Y s,I .u8 0,Y ⟨#[]⟩,I J 0,I J 0,I J (-1)][j]?:=λj=>(c.cell (p:=(C (F (X b)) j G)) oS).trans (by rw[World.cell?_alloc_at _ _ _ _ rfl])
 have m:∀j,a.frozen? (C (F (X b)) j G)=false:=λj=>(c.frozen (p:=(C (F (X b)) j G)) oS).trans (by rw[World.frozen?_alloc_at _ _ _ _ rfl])
 have f:=x 0;have g:=x 1;have h:=x 2;have i:=x 3;have k:=x 4;have l:=x 5;clear x;have e:=OL a (F (X b)) (I .u8 (az s 0).kind) (Y (az s 0).text) (I J (az s 0).aC) (I J (az s 0).zto);have x:Below (F (X b)) b a:=oA.trans (c.mono oS);refine⟨?_,ib x e x.size (λw j=>by simp at j;omega)⟩;refine⟨oT,?_,?_,?_,?_,?_,?_,?_⟩
 all_goals go_simp
def adK{j s v n}(i:F (X a)<n)(w:Ow b n 317 3 v (aJ s).aq.length (cellsOf (aJ s).aq))(h:Below (F (X a)) a b)(k:ak [F (X a)] b j):Rw a s v j:=by
 refine⟨ib h k h.size (λf c=>by simp at c;omega),?_⟩;refine⟨w.1,?_⟩;rcases w.2 with i|⟨g,d,e,rfl,_,f,c⟩
 .exact .inl i
 refine .inr ⟨g,d,e,rfl,O,?_,c⟩;rw[k.block g (aM.1 f).1 oT];exact f
def MI(w o rs d rv pv tv sv)(h:kC w o rs d rv pv tv sv)(s)(V:s.size<=maxLen):Calls prog 130 #[Vp (P (C o 0 G)),Y s] w (acv w d s):=by
 have T:=h.lt;have t:∀{u g Q:Nat},u<Z d->tv=U (P (C g 0 G)) (Z d) Q->g<F (X w):=λc a=>by subst a;exact(h.aq.lt _ rfl).2
 have a:=H h;clear h;go_in;go_wp2_with fail;refine(M6 s 0 (Nat.zero_le _) V _).mono ?_;rintro e w1⟨rfl,c⟩;obtain⟨i,n⟩:=Jy c;have hz:F (X w)<F (X w1):=by have:=c.size;simp at this;omega
 have W:=adL c;rw[show(Al w (Vc #[Y ⟨#[]⟩,U G 0 0,Vb Bf,I J 0,I J 0] 243)).heap.size=F (X w)+1 by simp]at W;have r:=H W.1;have B:=H (((Below.refl (F (X w)) w).alloc L9 _).trans (W.2.mono (Nat.le_succ _)));have z:=H W.2;clear W;go_wp2_with fail;clear i n c;generalize c:Sc (Sc (Sc (Sc w1 (C (F (X w)+1) 1 G) (I .u8 (az s 0).kind)) (C (F (X w)+1) 2 G) (Y (az s 0).text)) (C (F (X w)+1) 3 G) (I J (az s 0).aC)) (C (F (X w)+1) 4 G) (I J (az s 0).zto)=W at*;clear c;refine(H3 s 0 (-1) (F (X w)+1) W r (Nat.zero_le _) V).mono ?_;rintro e c⟨v,rfl,n,S,_,i⟩;have R:=B.size;have A:Below (F (X w)) w c:=ib B n R (λb y=>by simp at y;omega);have y:=aX i R;obtain⟨b,f,rfl⟩:=aF y;have l:=a.kept ((ak.refl [] _).bC A) oS;obtain⟨_,c0,c1,c2,c3,c4,c5,fz⟩:=S;have S:∀j,Ce c (C (F (X w)) j G)=#[Y ⟨#[]⟩,U G 0 0,Vb Bf,I J 0,I J 0][j]?:=λj=>((n.cell (p:=(C (F (X w)) j G)) (by show(F (X w))<_;have:=r.lt;omega) oS).trans (z.cell (p:=(C (F (X w)) j G)) oS)).trans (by rw[World.cell?_alloc_at _ _ _ _ rfl])
 have fA:∀j,c.frozen? (C (F (X w)) j G)=false:=λj=>((n.frozen (p:=(C (F (X w)) j G)) (by show(F (X w))<_;have:=r.lt;omega) oS).trans (z.frozen (p:=(C (F (X w)) j G)) oS)).trans (by rw[World.frozen?_alloc_at _ _ _ _ rfl])
 have E:=S 0;have K:=S 1;have L:=S 2;have M:=S 3;have N:=S 4;have x:=λ(q:W8)(k:ak [F (X w)] c q)=>adK (s:=s) (show(F (X w))<(F (X W)) by have:=r.lt;omega) i A k
 have m:=H x;have HP:=H l;have p:F (X w)<F (X c):=O
 have D:=H (λ(nm:B8)(wr:W8)(hb:Below (F (X c)) c wr)=>sP wr o rs d _ _ _ _ nm (l.kept ((ak.refl [] _).bC hb) oS));clear S y i l A n z B r c0 c2 c3 c4 fz R x a;simp only[List.getElem?_toArray,List.getElem?_cons_zero,List.getElem?_cons_succ]at E K L M N
 by_cases aoz:0<=(bA s 0 (-1)).2.2
 .have a:=H (show iZ d s=Bf by unfold iZ vt;simp;omega);go_wp2_with fail;obtain⟨r,i,x,y,z⟩:=AL E K L M N (Y (az s 0).text) (U b (bA s 0 (-1)).fst.length f) (Vb Bf) (I J (az s 0).aC) (I J 0);have R:=Ax c (F (X w)) (Y (az s 0).text) (U b (bA s 0 (-1)).fst.length f) (Vb Bf) (I J (az s 0).aC) (I J 0);have r:=j4 r;have i:=j4 i;have x:=j4 x;have y:=j4 y;have z:=j4 z;refine bodyPost_ret (v:=Vt #[(aJ s).val (U b (bA s 0 (-1)).fst.length f),Vb Bf]) (by simp[results,results130,go_sem,aJ,aR.val,r,i,x,y,z]) rfl ⟨_,by rw[ag a],m _ (R.alloc _)⟩
 cases S:(az s (bA s 0 (-1)).2.1).kind==46 with
 |false=>
  have a:=H (show iZ d s=Bf by unfold iZ vt;simp[S]);have n:((az s (bA s 0 (-1)).2.1).kind != 46)=true:=by simp[bne,S]
  go_wp2_with fail;obtain⟨r,i,x,y,z⟩:=AL E K L M N (Y (az s 0).text) (U b (bA s 0 (-1)).fst.length f) (Vb Bf) (I J (az s 0).aC) (I J 0);have R:=Ax c (F (X w)) (Y (az s 0).text) (U b (bA s 0 (-1)).fst.length f) (Vb Bf) (I J (az s 0).aC) (I J 0);have r:=j4 r;have i:=j4 i;have x:=j4 x;have y:=j4 y;have z:=j4 z;refine bodyPost_ret (v:=Vt #[(aJ s).val (U b (bA s 0 (-1)).fst.length f),Vb Bf]) (by simp[results,results130,go_sem,aJ,aR.val,r,i,x,y,z]) rfl ⟨_,by rw[ag a],m _ (R.alloc _)⟩
 |true=>
  have n:((az s (bA s 0 (-1)).2.1).kind != 46)=false:=by simp[bne,S]
  have a:=H (show iZ d s=jg d (az s 0).text (bA s 0 (-1)).1.length by unfold iZ vt;simp[S];omega);go_wp2_with fail;refine(D (az s 0).text _ oA).mono ?_;rintro e w3⟨rfl,B⟩;subst B;have B:=(ak.refl [] c).alloc (Vc #[Y (az s 0).text,U b (bA s 0 (-1)).fst.length f,Vb Bf,I J (az s 0).aC,I J 0] 243);have A:=H (HP.kept B oS);have l:=H (λ(q:W8)(k:ak [F (X w)] (Al c (Vc #[Y (az s 0).text,U b (bA s 0 (-1)).fst.length f,Vb Bf,I J (az s 0).aC,I J 0] 243)) q)=>m q ((B.mono oS).trans k));have k:=λj=>tG c (Y (az s 0).text) (U b (bA s 0 (-1)).fst.length f) (Vb Bf) (I J (az s 0).aC) (I J 0) 243 j
  have E:=(B.cell (p:=(C (F (X w)) 0 G)) p oS).trans E;have K:=(B.cell (p:=(C (F (X w)) 1 G)) p oS).trans K;have L:=(B.cell (p:=(C (F (X w)) 2 G)) p oS).trans L;have M:=(B.cell (p:=(C (F (X w)) 3 G)) p oS).trans M;have N:=(B.cell (p:=(C (F (X w)) 4 G)) p oS).trans N;have fA:=λj=>(B.frozen (p:=(C (F (X w)) j G)) p oS).trans (fA j)
  have hsz:F (X c)<(Al c (Vc #[Y (az s 0).text,U b (bA s 0 (-1)).fst.length f,Vb Bf,I J (az s 0).aC,I J 0] 243)).heap.size:=oS
  generalize Al c (Vc #[Y (az s 0).text,U b (bA s 0 (-1)).fst.length f,Vb Bf,I J (az s 0).aC,I J 0] 243)=wr at*;have b00:=k 0;have b01:=k 1;have b02:=k 2;have b03:=k 3;have b04:=k 4;have hoW:=T;clear k B HP m c1 c5
  by_cases k:aL d (az s 0).text<0
  .have HM:=H (show jg d (az s 0).text (bA s 0 (-1)).1.length=Bt by simp[jg,k]);clear D A t;go_wp2
   go_region
   go_wp2_with fail;obtain⟨r,i,x,y,z⟩:=AL E K L M N (Y (az s 0).text) (U b (bA s 0 (-1)).fst.length f) (Vb Bf) (I J (az s 0).aC) (I J 0);have R:=Ax wr (F (X w)) (Y (az s 0).text) (U b (bA s 0 (-1)).fst.length f) (Vb Bf) (I J (az s 0).aC) (I J 0);refine bodyPost_ret (v:=Vt #[(aJ s).val (U b (bA s 0 (-1)).fst.length f),Vb Bt]) (by simp[results,results130,go_sem,aJ,aR.val,r,i,x,y,z]) rfl ⟨_,by rw[ag a,ag HM],l _ R.drew⟩
  obtain⟨u,j⟩:∃u:Nat,aL d (az s 0).text=(u:Int):=⟨_,(Int.toNat_of_nonneg O).symm⟩;have m:u<Z d:=by have:=mS (show 0<=aL d (az s 0).text by omega);rw[j]at this;simpa using this
  have HM:=H (show jg d (az s 0).text (bA s 0 (-1)).1.length=((d[u].2:Int)==(bA s 0 (-1)).1.length) by unfold jg;rw[if_neg k,j];simp[List.getD_eq_getElem?_getD,m]);rw[j];have yS:=A.c2;obtain⟨g,Q,hv,_,_,Ab,hc⟩:=rZ A.aq O;have B:=hc u m;rw[List.getElem?_map,List.getElem?_eq_getElem m]at B;simp only[Option.map_some]at B;have qE:=World.block_lt_of_cell? wr _ B;simp only at qE;have Ck:=t m hv;clear t;subst hv;have t:(u:Int)<Z d:=O
  unfold maxLen at Ab;clear D A hc;go_wp2_with fail;have A:(F (X w))≠o:=O
  have D:(F (X w))≠g:=O
  have n3:(F (X w))≠(F (X c)):=O
  go_region_held3 (λq=>Ce q (C o 2 G)=P (U (P (C g 0 G)) (Z d) Q)/\Ce q (C g u G)=P (I J (d[u].2:Nat))/\Ce q (C (F (X c)) 0 G)=P (Y (az s 0).text)/\Ce q (C (F (X c)) 1 G)=P (U b (bA s 0 (-1)).fst.length f)/\Ce q (C (F (X c)) 2 G)=P (Vb Bf)/\Ce q (C (F (X c)) 3 G)=P (I J (az s 0).aC)/\Ce q (C (F (X c)) 4 G)=P (I J 0)) (go_keep) (fail)
  go_wp2_with fail;obtain⟨r,i,x,y,z⟩:=AL E K L M N (Y (az s 0).text) (U b (bA s 0 (-1)).fst.length f) (Vb Bf) (I J (az s 0).aC) (I J 0);have R:=Ax wr (F (X w)) (Y (az s 0).text) (U b (bA s 0 (-1)).fst.length f) (Vb Bf) (I J (az s 0).aC) (I J 0);refine bodyPost_ret (v:=Vt #[(aJ s).val (U b (bA s 0 (-1)).fst.length f),Vb ((d[u].2:Int)==(bA s 0 (-1)).1.length)]) (by simp[results,results130,go_sem,aJ,aR.val,r,i,x,y,z];intro h;omega) rfl ⟨_,by rw[ag a,ag HM],l _ R.drew⟩
end
section
open Go.RowKit Go.Maps
def iB(p:Pl):List Pl->Nat->List (Th×Nat)
 | [],_=>[]
 |q::r,i=>if sX q p then(q.t,i)::iB p r (i+1) else iB p r (i+1)
def Pz(p q:Pl):∀(l:List Pl)(i:Nat),iB p (l++[q]) i=iB p l i++(if sX q p then [(q.t,i+Z l)] else [])
 | [],i=>by simp[iB]
 |x::l,i=>by
  rw[jA,iB,iB,Pz p q l (i+1),ff,show i+1+Z l=i+(Z l+1) by omega]
  split<;>simp
variable {a:Nat}{b:Th}
def Js{p:Pl}:∀(l:List Pl)(i:Nat),(b,a)∈iB p l i->∃q∈l,q.t=b
 | [],_,h=>by simp[iB]at h
 |x::l,i,h=>by
  rw[iB]at h
  split at h
  .rcases bS.1 h with h|h
   .injection h with t e;exact⟨x,bz,t.symm⟩
   obtain⟨q,t,e⟩:=Js l (i+1) h;exact⟨q,bG _ t,e⟩
  obtain⟨q,t,e⟩:=Js l (i+1) h;exact⟨q,bG _ t,e⟩
def Zi(p:Pl):∀(l:List Pl)(i:Nat),(iB p l i).length<=Z l
 | [],_=>by simp[iB]
 |x::l,i=>by
  have:=Zi p l (i+1);rw[iB]
  split<;>simp<;>omega
def akL{L}(h:bK L b=G):kh L b a=L++[(b,a)]:=by unfold kh;rw[h];rfl
structure Kv(w:W8)(p:Pl)(a:List Pl)(nb k:Nat)(wr:W8):Prop where
 m:bQ wr nb (iB p (a.take k) 0)
 b:wr.heap[F (X w)]?=P (Vc (gy p).toArray 148)
 k:Below (F (X w)) w wr
def acU(w:W8)(p:Pl)(a:List Pl)(e:Ending)(w':W8):Prop:=
 ∃nb,e=Vr (.map (P nb))/\(F (X w))<=nb/\bQ w' nb (iB p a 0)/\Below (F (X w)) w w'
def anR(w v a c d p)(h:Ow w v 148 7 (U a (Z d) c) (Z d) (d.flatMap gy))(k:∀q∈d,fY q.t)(i:(d.map (·.t)).Nodup)(hl:Z d<=1000):Calls prog 108 #[U a (Z d) c,tQ p] w (acU w p d):=by
 have b:=H h;have L:=H k;have E:=H i;clear h k i;have k:=@run_makeMap prog;have Q:=H (show tQ p=Va (gy p).toArray from rfl);unfold tQ;unfold gy;go_in;go_wp2_with fail;generalize i:World.alloc (World.alloc w _) _=B;have h:Below (F (X w)) w B:=by rw[<-i];exact((aZ (F (X w)) w).alloc L9 _).alloc oS _
 have o:B.heap[F (X w)]?=P (Vc (gy p).toArray 148):=by rw[<-i,aW _ _ _ oS];exact aG w _
 have j:bQ B (F (X w)+1) []:=by rw[<-i];have:=bQ.made (Al w (Vc (gy p).toArray 148));rw[bL]at this;exact this
 have l:=H (show Kv w p d (F (X w)+1) 0 B from ⟨j,o,h⟩);clear i h o j k
 go_loopg [11] (Z d) (λj i wr=>∃k:Nat,k<=Z d/\j=Z d-k/\i=I J k/\Kv w p d (F (X w)+1) k wr)
 exact⟨0,aI _,rfl,rfl,l⟩
 case round=>
  clear l;obtain⟨k,_,_,rfl,i⟩:=hrel
  by_cases l:k<Z d
  .obtain⟨q,j⟩:∃q,q=d[k]:=⟨_,rfl⟩;have o:q∈d:=(by rw[j];exact aN l);obtain⟨g,_,hv,_,f,_,_,n⟩:=gu Zy b k l;injection hv with h N A
   subst h A;have h:=i.k;have d0:Ce wr (C g (k*7) G)=P (Y q.t.p):=(by rw[j];exact(h.cell (p:=(C g (k*7) G)) f).trans (n 0 O));have d1:Ce wr (C g (k*7+1) G)=P (Y (bj q.t.ts 0)):=(by rw[j];exact(h.cell (p:=(C g (k*7+1) G)) f).trans (n 1 O));have d2:Ce wr (C g (k*7+2) G)=P (Y (bj q.t.ts 1)):=(by rw[j];exact(h.cell (p:=(C g (k*7+2) G)) f).trans (n 2 O));have d3:Ce wr (C g (k*7+3) G)=P (Y (bj q.t.ts 2)):=(by rw[j];exact(h.cell (p:=(C g (k*7+3) G)) f).trans (n 3 O));have d4:Ce wr (C g (k*7+4) G)=P (Y (bj q.t.ts 3)):=(by rw[j];exact(h.cell (p:=(C g (k*7+4) G)) f).trans (n 4 O));have d5:Ce wr (C g (k*7+5) G)=P (I J q.s):=(by rw[j];exact(h.cell (p:=(C g (k*7+5) G)) f).trans (n 5 O));have d6:Ce wr (C g (k*7+6) G)=P (I J q.h):=(by rw[j];exact(h.cell (p:=(C g (k*7+6) G)) f).trans (n 6 O));have oy:=i.m.lt;have r:=(aW wr (Vc #[Y q.t.p,Y (bj q.t.ts 0),Y (bj q.t.ts 1),Y (bj q.t.ts 2),Y (bj q.t.ts 3),I J q.s,I J q.h] 148) _ (by omega:F (X w)<F (X wr))).trans i.b;have R:=(aj r 0).1;have S:=(aj r 1).1;have T:=(aj r 2).1;have V:=(aj r 3).1;have b4:=(aj r 4).1;have b5:=(aj r 5).1;have b6:=(aj r 6).1;simp only[gy,bt,aT,bx]at R S T V b4 b5 b6;have z:=H (λW=>anS W q p);have W:=H i;have hT:=ag L q o;have u:=H (show d.take (k+1)=d.take k++[q] by rw[jr l,j]);have x:(iB p (d.take k) 0).length<maxLen:=by have:=Zi p (d.take k) 0;rw[qk]at this;unfold maxLen;omega
   have t:bK (iB p (d.take k) 0) q.t=none:=by
    cases K:bK (iB p (d.take k) 0) q.t with
    |none=>rfl
    |some m=>obtain⟨y,D,e⟩:=Js _ _ (rU K);have s:=ag E;rw[<-L2 k d,fg,pF]at s;refine absurd e (s.2.2 y.t (fW D) q.t (fW ?_));rw[dM l,<-j];exact bz
   have K:=H t;have kf:(k:Int)<Z d:=O;clear n i h j o r t N
   have t:=H (λ(o:W8)(m:Below (F (X wr)+1) (Al wr (Vc #[Y q.t.p,Y (bj q.t.ts 0),Y (bj q.t.ts 1),Y (bj q.t.ts 2),Y (bj q.t.ts 3),I J q.s,I J q.h] 148)) o)=>(show Kv w p d (F (X w)+1) k o/\o.heap[F (X wr)]?=P (Vc #[Y q.t.p,Y (bj q.t.ts 0),Y (bj q.t.ts 1),Y (bj q.t.ts 2),Y (bj q.t.ts 3),I J q.s,I J q.h] 148) from by
    have i:=ag W;have s:Below (F (X wr)) wr o:=((aZ (F (X wr)) wr).alloc L9 _).trans (m.mono O)
    exact⟨⟨i.m.block (s.block _ i.m.lt),(s.block _ O).trans i.b,i.k.trans (s.mono i.k.size)⟩,(m.block _ O).trans (aG wr _)⟩))
   cases s:sX q p with
   |true=>
    rw[s]at z;have n:=H s;clear s
    go_wp2_with(first
     | (go_at_call 163;refine(z _).mono ?_;rintro en o⟨rfl,m⟩;obtain⟨e,r⟩:=ag t o (oU m);have N:=e.m;have e0:=(aj r 0).1;have e1:=(aj r 1).1;have e2:=(aj r 2).1;have e3:=(aj r 3).1;have e4:=(aj r 4).1;simp only[bt,aT,bx]at e0 e1 e2 e3 e4;have h:=H e;clear e r m)
     | (at_mapUpdate;refine Rl _ rfl _ _ _ 82 rfl underlying82 (F (X w)+1) (iB p (d.take k) 0) rfl N x q.t k rfl rfl hT ?_;intro w3 y j;have D:=H y;have M:=H j;clear y j))
    go_roundg(Z d-(k+1))
    case measure=>omega
    case rel=>
     have e:=ag h;have y:=M.grown;refine⟨k+1,O,rfl,oN,?_,?_,?_⟩
     .have A:=ag D;rw[akL (ag K)]at A;rw[ag u,Pz,ag n,aD rfl,qk,lZ,BG O];exact A
     .exact(y.block _ (aM.1 e.b).1 oS).trans e.b
     exact⟨y.os.trans e.k.os,y.tape.trans e.k.tape,y.output.trans e.k.output,bf e.k.size y.size,λj N=>(y.block j (oF e.k.size) oT).trans (e.k.block j N)⟩
   |false=>
    rw[s]at z;have n:=H s;clear s;go_wp2_with(go_at_call 163;refine(z _).mono ?_;rintro en o⟨rfl,m⟩;obtain⟨e,r⟩:=t o (oU m);have h:=H e;clear e r m);go_roundg(Z d-(k+1))
    case measure=>omega
    case rel=>have e:=ag h;refine⟨k+1,O,rfl,oN,?_,e.b,e.k⟩;rw[ag u,Pz,ag n];simpa using e.m
  have e:k=Z d:=O
  subst e;have W:=H i;clear i;go_wp2;go_ret;have i:=ag W;have:=i.m;rw[vd]at this;exact⟨_,rfl,O,this,i.k⟩
end
end Go.Proofs.YtldkpahaocjdpaaGreat
