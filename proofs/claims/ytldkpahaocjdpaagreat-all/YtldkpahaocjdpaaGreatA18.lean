/-
  The reference's of: an atom with what its variables are; its find: the place of a text.
-/
import Derived.Test.YtldkpahaocjdpaaGreatA14
set_option maxHeartbeats 16000000
set_option maxRecDepth 1000000
namespace Go.Proofs.YtldkpahaocjdpaaGreat
open Go.Value renaming slice->U,int->I,string->Y,bool->Vb,pointer->Vp,agg->Va
open Go.IntKind renaming i64->J
open Go.Ending renaming returned->Vr
open Go.Obj renaming cells->Vc
open _root_.Option renaming none->G,some->P
open _root_.Bool renaming false->Bf
open Go.Addr renaming mk->C
open _root_.List renaming length->Z
open Go.World renaming heap->X,alloc->Al,setCell->Sc,cell?->Ce,ownsRow->Ow
open _root_.Array renaming size->F
open Go.Proofs.Tryz
set_option linter.defProp false
section
open Go.RowKit
def Qk(w a E A T c b g i d f j k)(p:jz w a E (U c (Z E) d) (U b (Z E) f))(m:Ow w a 317 3 (U g (Z A.aq) j) (Z A.aq) (cellsOf A.aq))(n:Ow w a 317 3 (U i (Z T.aq) k) (Z T.aq) (cellsOf T.aq))(l:Z E+Z A.aq<=1000):Calls prog 139 #[Va #[U c (Z E) d,U b (Z E) f],Va #[Y A.ax,U g (Z A.aq) j,Vb A.no,I J A.aC,I J A.aO],Va #[Y T.ax,U i (Z T.aq) k,Vb T.no,I J T.aC,I J T.aO]] w (DY w (U c (Z E) d) (U b (Z E) f) (gY E A T)):=by
 cases h:A.ax.toList==T.ax.toList&&Z A.aq==(Z T.aq) with
 |false=>
  have e:gY E A T=none:=by unfold gY;rw[h];rfl
  rw[e];refine(aiv w A T c b g i (Z E) d f j k h).mono ?_;rintro e q⟨o,rfl⟩;exact⟨o,λ_=>rfl,λ_ h=>by cases h⟩
 |true=>
  have e:gY E A T=mz E A.aq T.aq:=by unfold gY;rw[h];rfl
  rw[e];simp only[pE,qV]at h;exact aiw w a E A T c b g i d f j k p m n l (qV.2 h.1) h.2
structure pI(w:W8)(A:aR)(nv tv av:V9)(l:List ie)(v:V9)(wr:W8):Prop where
 ai:Below (F (X w)) w wr
 b0:wr.heap[F (X w)]?=P (Vc #[nv,tv] 258)
 b1:wr.heap[F (X w)+1]?=P (Vc #[Y A.ax,av,Vb A.no,I J A.aC,I J A.aO] 243)
 b2:wr.heap[F (X w)+1+1]?=P (Vc #[Y ⟨#[]⟩,U G 0 0,Vb Bf,I J 0,I J 0] 243)
 b3:wr.heap[F (X w)+1+1+1]?=P (Vc #[Y A.ax,v,Vb Bf,I J 0,I J 0] 243)
 row:Ow wr (F (X w)+4) 317 3 v (Z l) (cellsOf l)
variable {a:List ie}{b:aR}{c d e f:V9}{g h:W8}
def pI.lt(w:pI g b d c e a f h):F (X g)+4<=F (X h):=(aM.1 w.b3).1
def pI.zm{A}(wr:pI g b d c e a f h)(k:Below (F (X h)) h A):pI g b d c e a f A:=by have v:=wr.lt;exact⟨wr.ai.trans (k.mono O),(k.block _ O).trans wr.b0,(k.block _ O).trans wr.b1,(k.block _ O).trans wr.b2,(k.block _ O).trans wr.b3,aQ wr.row k (λw l=>(wr.row.lt w l).2)⟩
def pI.start(w A b c a):pI w A b c a [] (U G 0 0) (Al (Al (Al (Al w (Vc #[b,c] 258)) (Vc #[Y A.ax,a,Vb A.no,I J A.aC,I J A.aO] 243)) (Vc #[Y ⟨#[]⟩,U G 0 0,Vb Bf,I J 0,I J 0] 243)) (Vc #[Y A.ax,U G 0 0,Vb Bf,I J 0,I J 0] 243)):=by
 refine⟨(((((aZ _ w).alloc L9 _).alloc oS _).alloc oT _).alloc oT _),?_,?_,?_,?_,dm _ _ _ _⟩
 .rw[aW _ _ _ (by simp<;>omega),aW _ _ _ (by simp<;>omega),aW _ _ _ oS];exact aG w _
 .rw[aW _ _ _ (by simp<;>omega),aW _ _ _ oS];have:=aG (Al w (Vc #[b,c] 258)) (Vc #[Y A.ax,a,Vb A.no,I J A.aC,I J A.aO] 243);simpa using this
 .rw[aW _ _ _ oS];have:=aG (Al (Al w (Vc #[b,c] 258)) (Vc #[Y A.ax,a,Vb A.no,I J A.aC,I J A.aO] 243)) (Vc #[Y ⟨#[]⟩,U G 0 0,Vb Bf,I J 0,I J 0] 243);simpa using this
 have:=aG (Al (Al (Al w (Vc #[b,c] 258)) (Vc #[Y A.ax,a,Vb A.no,I J A.aC,I J A.aO] 243)) (Vc #[Y ⟨#[]⟩,U G 0 0,Vb Bf,I J 0,I J 0] 243)) (Vc #[Y A.ax,U G 0 0,Vb Bf,I J 0,I J 0] 243);simpa using this
def pI.add{w A m n j l v wr W w5}(h:pI w A m n j l v wr)(k:ak [] wr W)(o:W.grownBy w5 v.ownBlock){v' t}(e:Ow w5 (F (X w)+4) 317 3 v' (Z l+1) (cellsOf l++t.cells)):pI w A m n j (l++[t]) v' (Sc w5 (C (F (X w)+1+1+1) 1 G) v')/\w5.heap[F (X w)+1+1+1]?=P (Vc #[Y A.ax,v,Vb Bf,I J 0,I J 0] 243):=by
 have p:=h.lt;have q:=k.size;have f:ak v.ownBlock.toList wr w5:=(k.mono oS).trans (ak.jF o);have i:∀b,b<F (X w)+4->b∉v.ownBlock.toList:=λb c a=>by have:=(h.row.lt b (oU a)).1;omega
 have a:∀b,b<F (X w)+4->w5.heap[b]?=wr.heap[b]?:=λb c=>f.block b O (i b c)
 have g:∀b,b≠(F (X w))+1+1+1->(Sc w5 (C (F (X w)+1+1+1) 1 G) v').heap[b]?=w5.heap[b]?:=λb c=>cx _ _ _ _ (oU c)
 have d:=(a (F (X w)+1+1+1) O).trans h.b3;have r:=f.size;refine⟨⟨?_,?_,?_,?_,?_,?_⟩,d⟩
 .refine⟨f.os.trans h.ai.os,f.tape.trans h.ai.tape,f.output.trans h.ai.output,oT,λb c=>?_⟩;rw[g b O,a b O];exact h.ai.block b c
 .rw[g _ O,a _ O];exact h.b0
 .rw[g _ O,a _ O];exact h.b1
 .rw[g _ O,a _ O];exact h.b2
 .rw[j9 _ _ _ _ _ _ d];rfl
 rw[Ub,br];exact fh e oS _
def pI.Ca(wr:pI g b c d f a e h)(l w A i v):Below (F (X g)) g (Sc (Sc (Sc (Sc (Sc h (C (F (X g)+1+1) 0 G) l) (C (F (X g)+1+1) 1 G) w) (C (F (X g)+1+1) 2 G) A) (C (F (X g)+1+1) 3 G) i) (C (F (X g)+1+1) 4 G) v)/\Ow (Sc (Sc (Sc (Sc (Sc h (C (F (X g)+1+1) 0 G) l) (C (F (X g)+1+1) 1 G) w) (C (F (X g)+1+1) 2 G) A) (C (F (X g)+1+1) 3 G) i) (C (F (X g)+1+1) 4 G) v) (F (X g)) 317 3 e (Z a) (cellsOf a):=
 ⟨((((wr.ai.setCell oT _).setCell oT _).setCell oT _).setCell oT _).setCell oT _,aX (fh (fh (fh (fh (fh wr.row oS _) oS _) oS _) oS _) oS _) O⟩
def D4(w:W8)(E:ec)(A:aR):Ending->W8->Prop:=λe w'=>∃v,e=Vr (Va #[Y A.ax,v,Vb Bf,I J 0,I J 0])/\Ow w' (F (X w)) 317 3 v (bk E A).aq.length (cellsOf (bk E A).aq)/\Below (F (X w)) w w'
def an3{E k}(h:k<Z a):(a.take (k+1)).map (vU E)=(a.take k).map (vU E)++[vU E a[k]]:=by rw[jr h,fg];rfl
def FV(w b E A f a m h j n)(k:jz w b E (U f (Z E) h) (U a (Z E) j))(i:Ow w b 317 3 (U m (Z A.aq) n) (Z A.aq) (cellsOf A.aq))(yT:Z A.aq<=1000):Calls prog 192 #[Va #[U f (Z E) h,U a (Z E) j],Va #[Y A.ax,U m (Z A.aq) n,Vb A.no,I J A.aC,I J A.aO]] w (D4 w E A):=by
 obtain⟨i0,hi,u,y,z⟩:=info_parts XR;have o:=H (pI.start w A (U f (Z E) h) (U a (Z E) j) (U m (Z A.aq) n));have Q:=H k;have K:=H i;clear k i;go_in;go_wp2
 go_loopg [6] (Z A.aq) (λW i wr=>∃(k:Nat)(v:V9),k<=Z A.aq/\W=Z A.aq-k/\i=I J k/\pI w A (U f (Z E) h) (U a (Z E) j) (U m (Z A.aq) n) ((A.aq.take k).map (vU E)) v wr)
 exact⟨0,_,aI _,rfl,rfl,o⟩
 case round=>
  clear o;obtain⟨k,v,_,_,rfl,o⟩:=hrel;have W:((A.aq.take k).map (vU E)).length=k:=oT
  obtain⟨q,r,c⟩:=aF o.row;rw[W]at c;subst c;obtain⟨d,c⟩:=aj o.b1 1;have i:=H o;have l:=H W;clear o c W
  by_cases o:k<Z A.aq
  .have kf:(k:Int)<Z A.aq:=O;go_wp2_with fail;refine J3 6 Jj oK λW p=>?_
   simp only[DP,BC,By,vb];have x:Hid (pI w A (U f (Z E) h) (U a (Z E) j) (U m (Z A.aq) n) ((A.aq.take k).map (vU E)) (U q k r) W):=(by rw[p];exact(i).zm B9.drew);clear p i d;obtain⟨d,c⟩:=aj x.b1 1;obtain⟨L,p⟩:=aj x.b0 0;obtain⟨N,s⟩:=aj x.b0 1;obtain⟨_,_,t,-,-,_,_,S,M,D⟩:=zn (aQ K x.ai (λg e=>(K.lt g e).2)) k o;injection t with B i2 R
   subst B R;clear c p s
   repeat still_step
   refine wpStill_nil ?_;clear d L N;go_wp2_with fail;refine(aab W b E f a h j (Q.ai x.ai) A.aq[k].text A.aq[k].jv A.aq[k].aC).mono ?_;rintro e B⟨rfl,W⟩;have c:=H (x.zm W);clear x W S M D;obtain⟨x,d⟩:∃x,nK E A.aq[k]=x:=⟨_,rfl⟩;have W:=d;rw[W];have S:=H (show(A.aq.take (k+1)).map (vU E)=(A.aq.take k).map (vU E)++[⟨x,Bf,0⟩] by rw[an3 o,vU,d]);clear W d;obtain⟨_,_⟩:=aj c.b3 1;have M:=c.lt;have W:=c.row;rw[ag l]at W;have d:=H (λ(D:W8)(N:V9) R p=>pI.add (w5:=D) (v':=N) (W:=Al B (Vc #[Y x,Vb Bf,I J 0] 317)) (t:=⟨x,Bf,0⟩) c ((ak.refl [] _).alloc _) R p);rw[ag l]at d;have p:=H (World.news_of_block (aG B (Vc #[Y x,Vb Bf,I J 0] 317)));have R:=H (W.alloc (Vc #[Y x,Vb Bf,I J 0] 317));clear W;go_wp2_with(at_builtin;go_must (refine wpList_append_lies _ rfl _ _ _ rfl (F (X w)+4) 317 i0 (Va #[Y ⟨#[]⟩,Vb Bf,I J 0]) 3 32 underlying241 hi u y z rfl oD (U q k r) k _ rfl R (C (F (X B)) 0 G) 1 1 [Y x,Vb Bf,I J 0] rfl rfl p (by simp[Value.oneCell']) oD oM O oT _ rfl ?_;intro g T D W s L N;obtain⟨V,e2⟩:=ag d D _ s W;obtain⟨_,_⟩:=aj e2 1));go_roundg(Z A.aq-(k+1));exact⟨k+1,_,O,rfl,oN,by rw[ag S];exact V⟩;omega
  have c:k=Z A.aq:=O
  have s:=H c;clear c;obtain⟨t,_⟩:=aj i.b2 0;obtain⟨x,_⟩:=aj i.b2 1;obtain⟨B,_⟩:=aj i.b2 2;obtain⟨D,_⟩:=aj i.b2 3;obtain⟨L,_⟩:=aj i.b2 4;obtain⟨_,c⟩:=aj i.b3 0;obtain⟨_,d⟩:=aj i.b3 1;obtain⟨_,e⟩:=aj i.b3 2;obtain⟨_,g⟩:=aj i.b3 3;obtain⟨_,p⟩:=aj i.b3 4;clear c d e g p;go_wp2_with fail;refine bN (v:=Va #[Y A.ax,U q k r,Vb Bf,I J 0,I J 0]) (by simp[results,results192,go_sem,t,x,B,D,L]) rfl ⟨_,rfl,?_,(i.Ca _ _ _ _ _).1⟩;have:=(i.Ca (Y A.ax) (U q k r) (Vb Bf) (I J 0) (I J 0)).2;rw[ag s,vd]at this;rw[ag s];exact this
end
section
open Go.RowKit
structure aP where
 aH:aR
 text:B8
 s:Nat
 h:Nat
 r:Nat
 fr:List Nat
structure FG where
 F:aP
 tv:V9
 fv:V9
def FG.cells(f:FG):V8:=[Y f.F.aH.ax,f.tv,Vb f.F.aH.no,I J f.F.aH.aC,I J f.F.aH.aO,Y f.F.text,I J f.F.s,I J f.F.h,I J f.F.r,f.fv]
def nM(l:List Nat):V8:=l.map λ(x:Nat)=>I J x
structure lk(w:W8)(base:Nat)(f:FG):Prop where
 t:Ow w base 317 3 f.tv (Z f.F.aH.aq) (cellsOf f.F.aH.aq)
 i:Ow w base 3 1 f.fv (Z f.F.fr) (nM f.F.fr)
structure gV(w:W8)(base:Nat)(v:V9)(fs:List FG):Prop where
 row:Ow w base 262 10 v (Z fs) (fs.flatMap FG.cells)
 aK:∀f∈fs,lk w base f
variable {c:FG}{a:Nat}{b f:W8}
def lk.ai(h:lk f a c)(k:Below (F (X f)) f b):lk b a c:=⟨aQ h.t k (λg e=>(h.t.lt g e).2),aQ h.i k (λg e=>(h.i.lt g e).2)⟩
variable {d:List FG}{e:V9}
def gV.ai(h:gV b a e d)(k:Below (F (X b)) b f):gV f a e d:=⟨aQ h.row k (λg c=>(h.row.lt g c).2),λw c=>(h.aK w c).ai k⟩
def lk.dS{w}(h:lk b w c)(f:a<=w):lk b a c:=⟨aX h.t f,aX h.i f⟩
def qB(h:Ow b a 262 10 e (Z d) (d.flatMap FG.cells)){k}(c:k<Z d):∃g j,e=U (P (C g 0 G)) (Z d) j/\a<=g/\g<F (X b)/\(Z d)<=j/\j<=maxLen/\∀j,j<10->Ce b (C g (k*10+j) G)=(d[k].cells)[j]?:=
 gu (f:=FG.cells) (λ_=>rfl) h k c
def uA(t:B8):List aP->Nat->Int
 | [],_=>-1
 |x::r,k=>if x.text.toList==t.toList then k else uA t r (k+1)
def dp(l:List aP)(t:B8):Int:=uA t l 0
def afU{t l k}(h:k<Z l):uA t (l.drop k) k=if l[k].text.toList==t.toList then(k:Int) else uA t (l.drop (k+1)) (k+1):=by rw[dM h];rfl
def yK(w d a c b t)(h:Ow w d 262 10 (U a (Z b) c) (Z b) (b.flatMap FG.cells)):Calls prog 133 #[U a (Z b) c,Y t] w λe f=>e=Vr (I J (dp (b.map (·.F)) t))/\f=w:=by
 have f:=ej h;unfold maxLen at f;have j:=H h;clear h;go_in;go_wp2
 go_loop [5] (λi=>∃k:Nat,k<=Z b/\i=I J k/\uA t ((b.map (·.F)).drop k) k=dp (b.map (·.F)) t) (λi=>Z b-(intOf i).toNat)
 exact⟨0,aI _,rfl,rfl⟩
 case round=>
  obtain⟨k,_,rfl,i⟩:=hrel;have e:=H i;clear i
  by_cases i:k<Z b
  .obtain⟨_,_,m,-,_,_,_,g⟩:=qB j i;injection m with h n l
   subst h l;have l:=g 5 oD;have h:=H (afU (t:=t) (l:=b.map (·.F)) (k:=k) (oU i));simp only[FG.cells,bx,aT]at l;clear g;rw[nB]at h
   cases g:b[k].F.text.toList==t.toList with
   |true=>go_wp2;go_ret;exact⟨by rw[<-ag e,ag h,aD g];rfl,rfl⟩
   |false=>
    go_wp2
    go_round
    case rel=>exact⟨k+1,O,oN,by rw[<-ag e,ag h,aB (by rw[g];decide)]⟩
    case measure=>simp[intOf];omega
  go_wp2;go_ret;exact⟨by rw[<-ag e,gE oT];rfl,rfl⟩
def jX(a b:aP):Bool:=if a.s != b.s then decide (a.s<b.s) else if a.h != b.h then decide (a.h<b.h) else fc a.text b.text
def ad4(w A B d f g h q r o p i j k l):Calls prog 231 #[Va #[Y A.aH.ax,U d q i,Vb A.aH.no,I J A.aH.aC,I J A.aH.aO,Y A.text,I J A.s,I J A.h,I J A.r,U f r j],Va #[Y B.aH.ax,U g o k,Vb B.aH.no,I J B.aH.aC,I J B.aH.aO,Y B.text,I J B.s,I J B.h,I J B.r,U h p l]] w λe c=>e=Vr (Vb (jX A B))/\Below (F (X w)) w c:=by
 have c:=((aZ (F (X w)) w).alloc L9 (Vc #[Y A.aH.ax,U d q i,Vb A.aH.no,I J A.aH.aC,I J A.aH.aO,Y A.text,I J A.s,I J A.h,I J A.r,U f r j] 262)).alloc oS (Vc #[Y B.aH.ax,U g o k,Vb B.aH.no,I J B.aH.aC,I J B.aH.aO,Y B.text,I J B.s,I J B.h,I J B.r,U h p l] 262)
 cases m:((A.s:Int) != (B.s:Int)) with
 |true=>
  have e:(A.s != B.s)=true:=by simp at m⊢;omega
  have a:=H (show jX A B=decide ((A.s:Int)<(B.s:Int)) by unfold jX;rw[aD e];simp);clear e;go_in;go_wp2_with fail
  all_goals
   go_ret;exact⟨by rw[ag a];first|rfl|simp[*],c⟩
 |false=>
  have e:(A.s != B.s)=false:=by simp at m⊢;omega
  cases n:((A.h:Int) != (B.h:Int)) with
  |true=>
   have b:(A.h != B.h)=true:=(by simp at n⊢;omega);have a:=H (show jX A B=decide ((A.h:Int)<(B.h:Int)) by unfold jX;rw[aB (by rw[e];decide),aD b];simp);clear e b;go_in;go_wp2_with fail
   all_goals
    go_ret;exact⟨by rw[ag a];first|rfl|simp[*],c⟩
  |false=>
   have b:(A.h != B.h)=false:=(by simp at n⊢;omega);have a:=H (show jX A B=fc A.text B.text by unfold jX;rw[aB (by rw[e];decide),aB (by rw[b];decide)]);clear e b;go_in;go_wp2_with fail
   all_goals
    go_ret;exact⟨by rw[ag a];rfl,c⟩
end
section
open Go.RowKit
abbrev kR:=ec×List Nat
def jU(a:aR)(x:kR):List aP->Nat->List kR
 | [],_=>[]
 |f::r,i=>(match gY x.1 a f.aH with|some e=>[(e,x.2++[i])]|none=>[])++jU a x r (i+1)
def jy(a:aR)(l:List aP)(now:List kR):List kR:=now.flatMap λx=>jU a x l 0
def j6(l:List aP):List aR->List kR->List kR
 | [],now=>now
 |a::r,now=>j6 l r (if a.no then now else jy a l now)
def bI(A:aR):B8:=⟨(fR A).toArray⟩
def pP(l:List aP)(e:ec)(a:aR):Bool:=!a.no||decide (dp l (bI (bk e a))<0)
def lX(R:bg)(l:List aP):List kR:=(j6 l R.body [([],[])]).filter λx=>R.body.all (pP l x.1)
def ao1{a x l k}(h:k<Z l):jU a x (l.drop k) k=(match gY x.1 a l[k].aH with|some e=>[(e,x.2++[k])]|none=>[])++jU a x (l.drop (k+1)) (k+1):=by rw[dM h];rfl
def ao4{l b k now}(h:k<Z b):j6 l (b.drop k) now=j6 l (b.drop (k+1)) (if b[k].no then now else jy b[k] l now):=by rw[dM h];rfl
def ao3{a l now i}(h:i<Z now):jy a l (now.drop i)=jU a now[i] l 0++jy a l (now.drop (i+1)):=by unfold jy;rw[dM h,lY]
def abi(a:aR)(x:kR):∀(l:List aP)(i:Nat),(jU a x l i).length<=Z l
 | [],_=>bD _
 |f::r,i=>by
  rw[jU,br,ff];have:=abi a x r (i+1)
  split<;>simp<;>omega
def abm(a:aR)(l:List aP):∀e:List kR,(jy a l e).length<=Z e*Z l
 | []=>by simp[jy]
 |x::r=>by
  have b:=abi a x l 0;have c:=abm a l r;have e:jy a l (x::r)=jU a x l 0++jy a l r:=by simp[jy]
  rw[e,br,ff,wT];omega
def O3:∀(a b:List ie)(e c:ec),mz e a b=P c->Z c<=Z e+Z a
 | [],b,e,c,h=>by cases b<;>(rw[mz]at h<;>first|(cases h;simp)|simp_all)
 |t::a,[],e,c,h=>by rw[mz]at h<;>first|(cases h;simp)|simp_all
 |t::a,u::b,e,c,h=>by
  rw[mz]at h
  split at h
  .have:=O3 a b _ _ h;simp at this⊢;omega
  split at h
  .have:=O3 a b _ _ h;simp;omega
  cases h
def O2{e b a t}(h:gY e a t=P b):Z b<=Z e+Z a.aq:=by
 unfold gY at h
 split at h
 .exact O3 _ _ _ _ h
 cases h
structure WG where
 e:ec
 fr:List Nat
 nv:V9
 tv:V9
 fv:V9
def WG.W(x:WG):kR:=(x.e,x.fr)
def WG.cells(x:WG):V8:=[x.nv,x.tv,x.fv]
structure sy(w:W8)(base:Nat)(x:WG):Prop where
 jM:jz w base x.e x.nv x.tv
 fr:Ow w base 3 1 x.fv (Z x.fr) (nM x.fr)
 nil:x.fr=[]->x.fv=U G 0 0
structure oq(w:W8)(base:Nat)(v:V9)(ws:List WG):Prop where
 row:Ow w base 325 3 v (Z ws) (ws.flatMap WG.cells)
 aK:∀x∈ws,sy w base x
variable {a f:Nat}{b e:W8}
def sy.ai{x}(h:sy e a x)(k:Below (F (X e)) e b):sy b a x:=⟨h.jM.ai k,aQ h.fr k (λg w=>(h.fr.lt g w).2),h.nil⟩
variable {c:List WG}{d:V9}
def oq.ai(h:oq e a d c)(k:Below (F (X e)) e b):oq b a d c:=⟨aQ h.row k (λg w=>(h.row.lt g w).2),λx w=>(h.aK x w).ai k⟩
def sy.dS{x}(h:sy b f x)(c:a<=f):sy b a x:=⟨⟨aX h.jM.ns c,aX h.jM.ts c,h.jM.nil⟩,aX h.fr c,h.nil⟩
def sy.iT{B x}(h:sy b a x)(k:ak B b e)(d:∀w∈B,er b 9 w)(f:∀w∈B,er b 3 w):sy e a x:=
 ⟨⟨j3 h.jM.ns k (λw c=>.inr (d w c)),j3 h.jM.ts k (λw c=>.inr (d w c)),h.jM.nil⟩,j3 h.fr k (λw c=>.inr (f w c)),h.nil⟩
def oq.add{W w5 v' x}(h:oq b a d c)(l:sy b a x)(j:ak [] b W)(k:W.grownBy w5 d.ownBlock)(e:Ow w5 a 325 3 v' (Z c+1) (c.flatMap WG.cells++x.cells)):oq w5 a v' (c++[x]):=by
 have f:ak d.ownBlock.toList b w5:=(j.mono oS).trans (ak.jF k);have g:∀v∈d.ownBlock.toList,er b 9 v:=gl h.row oD;have i:∀v∈d.ownBlock.toList,er b 3 v:=gl h.row oD;refine⟨?_,λy v=>?_⟩
 .rw[br,oc];simpa using e
 rcases aS.1 v with v|v
 .exact(h.aK y v).iT f g i
 rw[bu.1 v];exact l.iT f g i
def oq.JB{i u k}(h:oq b a d c)(f:oq b a u k)(p:∀g,d.ownBlock=P g->u.ownBlock≠P g)(l:ak [] b e)(m:e.grownBy i d.ownBlock):oq i a u k:=by have j:ak d.ownBlock.toList b i:=(l.mono oS).trans (ak.jF m);have n:∀W∈d.ownBlock.toList,er b 9 W:=gl h.row oD;have o:∀W∈d.ownBlock.toList,er b 3 W:=gl h.row oD;exact⟨gC f.row (λg v=>j.block g (f.row.lt g v).2 (λy=>p g (oU y) v)),λy v=>(f.aK y v).iT j n o⟩
def F6(h:Ow b a 325 3 d (Z c) (c.flatMap WG.cells))(l:f<Z c):∃g w,d=U (P (C g 0 G)) (Z c) w/\a<=g/\g<F (X b)/\(Z c)<=w/\w<=maxLen/\Ce b (C g (f*3) G)=P c[f].nv/\Ce b (C g (f*3+1) G)=P c[f].tv/\Ce b (C g (f*3+2) G)=P c[f].fv:=by obtain⟨g,w,m,j,k,i,e,v⟩:=gu (f:=WG.cells) (λ_=>rfl) h f l;exact⟨g,w,m,j,k,i,e,v 0 oD,v 1 oD,v 2 oD⟩
def XT:(prog.info? 325).map (λi=>(i.zero,i.size,i.bytes))=P (P (Va #[U G 0 0,U G 0 0,U G 0 0]),3,72):=oK
def I2:(prog.info? 262).map (λi=>(i.zero,i.size,i.bytes))=P (P (Va #[Y ⟨#[]⟩,U G 0 0,Vb Bf,I J 0,I J 0,Y ⟨#[]⟩,I J 0,I J 0,I J 0,U G 0 0]),10,128):=oK
def ahq{l}:∀u∈nM l,u.oneCell'=true:=by intro u a;obtain⟨_,_,rfl⟩:=aU.1 a;rfl
def aho(a b):nM (a++b)=nM a++nM b:=fg
variable {c0 c3 c4 ed eM eN et eu dv dy eh dn cJ cF bX bY bZ b7 b8 cc cd cg ck cm cy cz cC cD cE cK cL cM cQ cR cS cT cU cV cW cX cY cZ da cN cO de dh cG dz dA dB dC dD dE dF dG dH dO dP dQ dR ei ev ew ey ez eP eQ eR eS eT eU eV eA eB dW dX dY eC eD eE eF eG eH eI eJ eW eX eY eZ e8 e9 fa fi ee dN fo fp fq ft fu fM fN fO fP fw fx fy fC fD fE fF fG fH fj fk fl fI fJ fK fL eO dV:V9}
def sM:Code->List Code
 | .loop c=>c::sM c
 | .seq a b=>sM a++sM b
 | .block _ c=>sM c
 | .cond _ a b=>sM a++sM b
 |_=>[]
noncomputable def F7(k:Nat):Code:=((f193.body.map sM).getD []).getD k .skip
structure vs(w:W8)(base:Nat)(R:bg)(hv:V9)(bs:List (aR×V9))(bv:V9)(fs:List FG)(lv:V9):Prop where
 cH:lN w base R hv bs bv
 bV:gV w base lv fs
 dc:Z fs<=50
 body:Z bs<=3
 aq:∀a∈R.body,Z a.aq<=4
structure jJ(w:W8)(R:bg)(hv bv nv:V9)(now:List WG)(v:V9)(next:List WG)(wr:W8):Prop where
 ai:Below (F (X w)) w wr
 box:wr.heap[F (X w)]?=P (Vc #[Y R.ay.ax,hv,Vb R.ay.no,I J R.ay.aC,I J R.ay.aO,bv] 246)
 now:oq wr (F (X w)+1) nv now
 next:oq wr (F (X w)+1) v next
 ne:∀g,v.ownBlock=P g->nv.ownBlock≠P g
variable {g h:List WG}{i:bg}{b c e f:V9}{a d:W8}
def jJ.lt(w:jJ a i c b e g f h d):F (X a)<F (X d):=(aM.1 w.box).1
def jJ.zm{w}(v:jJ a i c b e g f h d)(k:Below (F (X d)) d w):jJ a i c b e g f h w:=
 have R:=v.lt
 ⟨v.ai.trans (k.mono O),(k.block _ R).trans v.box,v.now.ai k,v.next.ai k,v.ne⟩
def ahz(k:ak [] d a):Below (F (X d)) d a:=⟨k.os,k.tape,k.output,k.size,λb c=>k.block b c oS⟩
def jJ.add{w R n m p f v next j W w5 x g cap}(h:jJ w R n m p f v next j)(s:sy j (F (X w)+1) x)(i:ak [] j W)(l:W.grownBy w5 v.ownBlock)(d:Ow w5 (F (X w)+1) 325 3 (U (P (C g 0 G)) (Z next+1) cap) (Z next+1) (next.flatMap WG.cells++x.cells))(k:v.ownBlock=P g\/g=F (X W)):jJ w R n m p f (U (P (C g 0 G)) (Z next+1) cap) (next++[x]) w5:=by
 have r:=h.lt;have t:=i.size;have q:=h.ai.size;have o:ak v.ownBlock.toList j w5:=(i.mono oS).trans (ak.jF l);have a:∀b∈v.ownBlock.toList,F (X w)+1<=b:=λb c=>(h.next.row.lt b (oU c)).1
 refine⟨ib h.ai o q (λb c=>by have:=a b c;omega),?_,h.next.JB h.now h.ne i l,h.next.add s i l d,λb e=>?_⟩
 .rw[o.block _ r (λc=>by have:=a _ c;omega)];exact h.box
 have c:g=b:=by simpa[Value.ownBlock]using e
 subst c;rcases k with e|e
 .exact h.ne g e
 intro c;have:=(h.now.row.lt g c).2;omega
variable {j:Nat}
def C6{w g}(h:¬g=w):Ce (Sc (Sc a (C w 0 G) b) (C w 1 G) c) (C g j G)=Ce a (C g j G):=by rw[j8 (cx _ (C w 1 G) _ g (oU h)),j8 (cx _ (C w 0 G) _ g (oU h))]
structure M3(wr:W8)(r:Option ec)(b:Nat)(nR jG:V9)(wc:W8):Prop where
 ai:Below (F (X wr)) wr wc
 ge:F (X wr)<=b
 blk:wc.heap[b]?=P (Vc #[nR,jG] 258)
 jM:∀E',r=P E'->jz wc (F (X wr)) E' nR jG
def M3.qw{W r}(g:Below (F (X a)) a W)(f:Below (F (X W)) W d)(i:∀wr,r=P wr->jz d (F (X W)) wr c b):M3 a r (F (X d)) c b (Al d (Vc #[c,b] 258)):=by have j:=g.size;have k:=f.size;refine⟨(g.trans (f.mono j)).alloc O _,O,aG d _,λwr e=>?_⟩;have h:=i wr e;exact⟨aX (h.ns.alloc _) O,aX (h.ts.alloc _) O,h.nil⟩
def M3.ahead{W r}(m:Below (F (X a)) a W)(l:F (X a)<=j)(i:W.heap[j]?=P (Vc #[b,e] 258))(k:Below (F (X W)) W d)(p:∀g,r=P g->jz d (F (X W)) g c f):M3 a r j c f (Sc (Sc d (C j 0 G) c) (C j 1 G) f):=by
 have q:=m.size;have s:=k.size;have wr:=(aM.1 i).1;have o:=(k.block j wr).trans i;have n:(Sc d (C j 0 G) c).heap[j]?=P (Vc #[c,e] 258):=by rw[j9 _ _ _ _ _ _ o];rfl
 refine⟨((m.trans (k.mono q)).setCell (oU l) _).setCell (oU l) _,l,by rw[j9 _ _ _ _ _ _ n];rfl,λg t=>?_⟩;have h:=p g t;exact⟨aX (fh (fh h.ns (oU wr) _) (oU wr) _) O,aX (fh (fh h.ts (oU wr) _) (oU wr) _) O,h.nil⟩
def ao7(w base R hv q bv l al cl)(x:vs w base R hv q bv l (U al (Z l) cl))(a an cn k i)(hk:k<Z q)(hi:i<Z a)(xr:a[i].e.length<=100)(IS:a[i].fr.length<=100)(T)(hT:Z T<=1000000)(v7 next)(e:next.map (·.W)++jU q[k].1 a[i].W (l.map (·.F)) 0=T)(w1)(A:jJ w R hv bv (U an (Z a) cn) a v7 next w1){Q} (v:∀f c w2 u9 S y t g o u p r n z B D E K b h N j W s V M d m L u61 u62 u63 u64 u65 u66 u67 u68 u69 u70 u71 u72 u73 u74 u75 u76 u77 u78 u79 u80 u81,jJ w R hv bv (U an (Z a) cn) a f c w2->c.map (·.W)=T->Q (.exit 4) ⟨List.toArray (c0::U al (Z l) cl::Vp (P (C (F (X w)) 0 G))::c3::c4::U an (Z a) cn::I J k::f::I J i::u9::S::y::t::et::eu::dv::dy::eh::dn::cJ::cF::bX::bY::bZ::b7::b8::cc::cd::cg::ck::cm::cy::cz::cC::cD::cE::cK::cL::cM::g::o::u::p::r::n::z::B::D::E::K::b::h::N::j::W::s::V::M::d::m::L::u61::u62::u63::u64::u65::u66::u67::u68::u69::u70::u71::u72::u73::u74::u75::u76::u77::u78::u79::u80::u81::dW::dX::dY::eC::eD::eE::eF::eG::eH::eI::eJ::eW::eX::eY::eZ::e8::e9::fa::fi::ee::dN::fo::fp::fq::ft::fu::fM::fN::fO::fP::fw::fx::fy::fC::fD::fE::fF::fG::fH::fj::fk::fl::fI::fJ::fK::fL::eO::dV::[]),[]⟩ w2):Code.wp prog (Code.loop (F7 2)) Q ⟨List.toArray (c0::U al (Z l) cl::Vp (P (C (F (X w)) 0 G))::c3::c4::U an (Z a) cn::I J k::v7::I J i::I J (0:Nat)::ed::eM::eN::et::eu::dv::dy::eh::dn::cJ::cF::bX::bY::bZ::b7::b8::cc::cd::cg::ck::cm::cy::cz::cC::cD::cE::cK::cL::cM::cQ::cR::cS::cT::cU::cV::cW::cX::cY::cZ::da::cN::cO::de::dh::cG::dz::dA::dB::dC::dD::dE::dF::dG::dH::dO::dP::dQ::dR::ei::ev::ew::ey::ez::eP::eQ::eR::eS::eT::eU::eV::eA::eB::dW::dX::dY::eC::eD::eE::eF::eG::eH::eI::eJ::eW::eX::eY::eZ::e8::e9::fa::fi::ee::dN::fo::fp::fq::ft::fu::fM::fN::fO::fP::fw::fx::fy::fC::fD::fE::fF::fG::fH::fj::fk::fl::fI::fJ::fK::fL::eO::dV::[]),[]⟩ w1:=by
 conv=>arg 2;arg 1;whnf
 have HC:=H x;have HF:=H e;have HI:=H A;have tJ:=x.dc;have HX:=H v;clear v;clear x e A
 go_loopg [7,9] (Z l) (λy v S wr=>∃(f:Nat)(c:List WG),f<=Z l/\y=Z l-f/\S=I J f/\jJ w R hv bv (U an (Z a) cn) a v c wr/\c.map (·.W)++jU q[k].1 a[i].W ((l.map (·.F)).drop f) f=T)
 exact⟨0,next,aI _,rfl,rfl,ag HI,ag HF⟩
 case round=>
  clear HI HF;obtain⟨f,c,_,_,rfl,A,e⟩:=hrel;obtain⟨a7,c7,rfl⟩:=aF A.next.row;have HI:=H A;have HF:=H e;clear A e
  by_cases Co:f<Z l
  .have x:=ag HC;have A:=ag HI;have S:=A.ai.size;have y:=A.lt
   -- what is read: the qb,the literal,the fact
   obtain⟨g5,_,sJ,-,pM,_,_,x0,x1,x2⟩:=F6 A.now.row hi;injection sJ with i1 i2 i3
   subst i1 i3;have t:=aQ x.cH.bo A.ai (λg e=>(x.cH.bo.lt g e).2);obtain⟨o,cb,u,-,qF,_,_,y0,y1,y2,y3,y4⟩:=qx t k hk;subst u;have u:=aQ x.bV.row A.ai (λg e=>(x.bV.row.lt g e).2);obtain⟨r,_,E6,-,Cq,_,_,p⟩:=qB u Co;injection E6 with i1 i2 i3
   subst i1 i3;have z0:=p 0 oD;have z1:=p 1 oD;have z2:=p 2 oD;have z3:=p 3 oD;have z4:=p 4 oD;simp only[FG.cells,bx,aT,iy]at z0 z1 z2 z3 z4;obtain⟨p5,-⟩:=aj A.box 5;simp only[bt,aT,bx]at p5;have n:=A.now.aK _ (aN hi);obtain⟨B,E,D,K,z,e2⟩:=n.jM.shape;have b:=x.cH.bl _ (aN hk);obtain⟨aa,ca,e3⟩:=aF b;have h:=(x.bV.aK _ (aN Co)).t;obtain⟨ba,N,e4⟩:=aF h;have h4:q[k].1.aq.length<=4:=x.aq _ (by rw[x.cH.eq];exact fW (aN hk));rw[z]at x0;rw[e2]at x1;rw[e3]at y1;rw[e4]at z1;have j:∀W,Below (F (X wr)) wr W->Calls prog 139 #[Va #[U B a[i].e.length E,U D a[i].e.length K],Va #[Y q[k].1.ax,U aa q[k].1.aq.length ca,Vb q[k].1.no,I J q[k].1.aC,I J q[k].1.aO],Va #[Y l[f].F.aH.ax,U ba l[f].F.aH.aq.length N,Vb l[f].F.aH.no,I J l[f].F.aH.aC,I J l[f].F.aH.aO]] W (DY W (U B a[i].e.length E) (U D a[i].e.length K) (gY a[i].e q[k].1 l[f].F.aH)):=λW V=>by
    have s:=A.ai.trans (V.mono S);have q1:=n.jM.ai V;rw[z,e2]at q1;rw[e3]at b;rw[e4]at h;exact Qk W 0 a[i].e q[k].1 l[f].F.aH B D aa ba E K ca N ⟨aX q1.ns (aI _),aX q1.ts (aI _),q1.nil⟩ (aX (aQ b s (λg e=>(b.lt g e).2)) (aI _)) (aX (aQ h s (λg e=>(h.lt g e).2)) (aI _)) O
   have V:=(ao1 (a:=q[k].1) (x:=a[i].W) (l:=l.map (·.F)) (k:=f) (oU Co));rw[nB]at V;have M:=H ((gQ (c.map (·.W)++·) V).symm.trans (ag HF));have d:=H j;have m:=H n;have L:=H (And.intro z e2);have tK:(i:Int)<Z a:=O;have kf:(k:Int)<Z q:=O;have Ad:(f:Int)<Z l:=O;have b1:=y;clear x A t u p n b h j V HF HC z e2 e3 e4 S y;generalize q[k].1=A at*;generalize l[f].F.aH=n at*
   have HK:Hid (∀W x:W8,Below (F (X wr)) wr W->Below (F (X W)) W x->Ce x (C g5 (i*3) G)=P (U B a[i].e.length E)/\Ce x (C g5 (i*3+1) G)=P (U D a[i].e.length K)/\Ce x (C (F (X w)) 5 G)=P (U (P (C o 0 G)) (Z q) cb)/\Ce x (C o (k*5) G)=P (Y A.ax)/\Ce x (C o (k*5+1) G)=P (U aa (Z A.aq) ca)/\Ce x (C o (k*5+2) G)=P (Vb A.no)/\Ce x (C o (k*5+3) G)=P (I J A.aC)/\Ce x (C o (k*5+4) G)=P (I J A.aO)/\Ce x (C r (f*10) G)=P (Y n.ax)/\Ce x (C r (f*10+1) G)=P (U ba (Z n.aq) N)/\Ce x (C r (f*10+2) G)=P (Vb n.no)/\Ce x (C r (f*10+3) G)=P (I J n.aC)/\Ce x (C r (f*10+4) G)=P (I J n.aO)):=H (λW x p b=>by
    have s:=p.trans (b.mono p.size)
    exact⟨(s.cell (oU pM)).trans x0,(s.cell (oU pM)).trans x1,(s.cell (oU b1)).trans p5,(s.cell (oU qF)).trans y0,(s.cell (oU qF)).trans y1,(s.cell (oU qF)).trans y2,(s.cell (oU qF)).trans y3,(s.cell (oU qF)).trans y4,(s.cell (oU Cq)).trans z0,(s.cell (oU Cq)).trans z1,(s.cell (oU Cq)).trans z2,(s.cell (oU Cq)).trans z3,(s.cell (oU Cq)).trans z4⟩)
   have d5:¬g5=F (X wr):=O;have db:¬o=F (X wr):=O;have dl:¬r=F (X wr):=O;have dw:¬(F (X w))=F (X wr):=O;go_upto_region 13 with fail
   go_cut [10,11] from 39 to 81 (λp V wc=>∃b nR jG,p=Vp (P (C b 0 G))/\V=Vb (gY a[i].e A n).isSome/\M3 wr (gY a[i].e A n) b nR jG wc)
   case first=>
    clear M m L x2 HI
    cases V:gY a[i].e A n with
    |none=>
     rw[V]at d
     go_region_held3 (λx=>Ce x (C g5 (i*3) G)=P (U B a[i].e.length E)/\Ce x (C g5 (i*3+1) G)=P (U D a[i].e.length K)/\Ce x (C (F (X w)) 5 G)=P (U (P (C o 0 G)) (Z q) cb)/\Ce x (C o (k*5) G)=P (Y A.ax)/\Ce x (C o (k*5+1) G)=P (U aa (Z A.aq) ca)/\Ce x (C o (k*5+2) G)=P (Vb A.no)/\Ce x (C o (k*5+3) G)=P (I J A.aC)/\Ce x (C o (k*5+4) G)=P (I J A.aO)/\Ce x (C r (f*10) G)=P (Y n.ax)/\Ce x (C r (f*10+1) G)=P (U ba (Z n.aq) N)/\Ce x (C r (f*10+2) G)=P (Vb n.no)/\Ce x (C r (f*10+3) G)=P (I J n.aC)/\Ce x (C r (f*10+4) G)=P (I J n.aO)) (first|go_keep|(refine⟨?_,?_,?_,?_,?_,?_,?_,?_,?_,?_,?_,?_,?_⟩<;>(refine(C6 ?_).trans ?_<;>assumption))) ((go_at_call 139;refine(ag d _ oB).mono ?_;rintro e w2⟨p,W,-⟩;obtain rfl:=W rfl;obtain⟨m0,m1,m2,m3,m4,m5,m6,m7,m8,m9,m10,m11,m12⟩:=ag HK _ _ oB p;have yS:=λ(j:Nat) h=>p.cell (p:=(C (F (X wr)) j G)) h;have yU:=λ(j:Nat) h=>p.frozen (p:=(C (F (X wr)) j G)) h;clear W))
     all_goals
      go_wp2;go_meet
      case rel=>
       rw[V]
       first|exact⟨_,_,_,rfl,rfl,M3.qw (W:=wr.drew) B9.drew p (λ_ h=>by cases h)⟩|exact⟨_,_,_,rfl,rfl,M3.ahead (W:=(Al wr (Vc #[U G 0 0,U G 0 0] 258)).drew) oA.drew L9 (aG wr _) p (λ_ h=>by cases h)⟩
    |some W=>
     rw[V]at d
     go_region_held3 (λx=>Ce x (C g5 (i*3) G)=P (U B a[i].e.length E)/\Ce x (C g5 (i*3+1) G)=P (U D a[i].e.length K)/\Ce x (C (F (X w)) 5 G)=P (U (P (C o 0 G)) (Z q) cb)/\Ce x (C o (k*5) G)=P (Y A.ax)/\Ce x (C o (k*5+1) G)=P (U aa (Z A.aq) ca)/\Ce x (C o (k*5+2) G)=P (Vb A.no)/\Ce x (C o (k*5+3) G)=P (I J A.aC)/\Ce x (C o (k*5+4) G)=P (I J A.aO)/\Ce x (C r (f*10) G)=P (Y n.ax)/\Ce x (C r (f*10+1) G)=P (U ba (Z n.aq) N)/\Ce x (C r (f*10+2) G)=P (Vb n.no)/\Ce x (C r (f*10+3) G)=P (I J n.aC)/\Ce x (C r (f*10+4) G)=P (I J n.aO)) (first|go_keep|(refine⟨?_,?_,?_,?_,?_,?_,?_,?_,?_,?_,?_,?_,?_⟩<;>(refine(C6 ?_).trans ?_<;>assumption))) ((go_at_call 139;refine(ag d _ oB).mono ?_;rintro e w2⟨p,-,S⟩;obtain⟨nR,jG,rfl,x⟩:=S W rfl;obtain⟨t,y,u,z,rfl,rfl⟩:=x.shape;obtain⟨m0,m1,m2,m3,m4,m5,m6,m7,m8,m9,m10,m11,m12⟩:=ag HK _ _ oB p;have yS:=λ(j:Nat) h=>p.cell (p:=(C (F (X wr)) j G)) h;have yU:=λ(j:Nat) h=>p.frozen (p:=(C (F (X wr)) j G)) h;have j:=H x;clear S x))
     all_goals
      go_wp2;go_meet
      case rel=>
       rw[V]
       first|exact⟨_,_,_,rfl,rfl,M3.qw (W:=wr.drew) B9.drew p (λ_ h=>by cases h;exact ag j)⟩|exact⟨_,_,_,rfl,rfl,M3.ahead (W:=(Al wr (Vc #[U G 0 0,U G 0 0] 258)).drew) oA.drew L9 (aG wr _) p (λ_ h=>by cases h;exact ag j)⟩
   case rest=>
    generalize wc=wA at*;obtain⟨b,nR,jG,rfl,rfl,hM⟩:=hcut;have Cc:=(ag HI).zm hM.ai;have h:=hM.ai;have vD:=h.size;have yg:=H Cc
    cases V:gY a[i].e A n with
    |none=>
     have Gj:=H (show c.map (·.W)++jU A a[i].W ((l.map (·.F)).drop (f+1)) (f+1)=T by
      have:=ag M;rw[show a[i].W.1=a[i].e from rfl,V]at this
      simpa using this)
     clear M hM HI d HK x0 x1 x2 y0 y1 y2 y3 y4 z0 z1 z2 z3 z4 p5 Cc m L V h;go_wp2;go_roundg(Z l-(f+1));exact⟨f+1,c,O,rfl,oN,ag yg,ag Gj⟩;omega
    |some W=>
     have x:=hM.jM W V;obtain⟨t,y,u,z,rfl,rfl⟩:=x.shape
     have Gj:=H (show(c.map (·.W)++[(W,a[i].fr++[f])])++jU A a[i].W ((l.map (·.F)).drop (f+1)) (f+1)=T by
      have:=ag M;rw[show a[i].W.1=a[i].e from rfl,V]at this
      simpa[WG.W]using this)
     have N5:Z c+1<=1000000:=by have:=gQ Z (ag Gj);simp only[br,bF,sq]at this;omega
     have Is:Z W<=200:=(oF (O2 V));have p:=hM.blk;have KN:=H x;have Gd:=H p;have IB:=(aM.1 p).1;have Ws:=hM.ge;have w2:Ce wA (C g5 (i*3+2) G)=P a[i].fv:=(h.cell (oU pM)).trans x2;have j:=aQ (ag m).fr h (λg e=>((ag m).fr.lt g e).2);obtain⟨af,cf,NP⟩:=aF j;rw[NP]at w2 j;have S:a[i].fr=[]->af=G/\cf=0:=λe=>by
      have:=(ag m).nil e;rw[NP]at this;injection this with q1 q2 q3
      exact⟨q1,q3⟩
     have uV:=H S;have ue:=H j;obtain⟨i0,sF,gB,dx,cB⟩:=info_parts Fi;clear M hM HI d HK x0 x1 x2 y0 y1 y2 y3 y4 z0 z1 z2 z3 z4 p5 Cc m L V h x p j S NP;generalize a[i].fr=m at*;go_upto_region 16 with fail
     go_cut [12] from 39 to 81 (λv wd=>wd.ownsRow (F (X wA)) 3 1 v (Z m) (nM m)/\Below (F (X wA)) wA wd)
     case first=>
      by_cases j:m=[]
      .obtain⟨rfl,rfl⟩:=ag uV j;rw[j]at ue w2;have h:=H j;clear j;go_wp2;go_meet
       case rel=>exact⟨by rw[ag h];exact dm _ _ _ _,aZ _ _⟩
      have h:=List.length_pos_iff.2 j;obtain⟨g1,_,x,-,-,-,-⟩:=rZ (ag ue) h;injection x with i1 i2 i3
      subst i1 i3;have M:=H (Qr (ag ue));go_wp2_with(at_builtin;go_must (refine wpList_append_lies _ rfl _ _ _ rfl (F (X wA)) 3 i0 (I J 0) 1 8 underlying24 sF gB dx cB rfl oD (U G 0 0) 0 [] rfl (dm _ _ _ _) (C g1 0 G) (Z m) cf (nM m) rfl (by simp[nM]) (ag M) ahq h oM O L9 _ rfl ?_;intro g L w5 d V S rP));go_meet
      case rel=>exact⟨by simpa using d,ahz (ak.jF V)⟩
     case rest=>
      generalize wc=wd at*;obtain⟨h,M⟩:=hcut;obtain⟨TE,Ud,rfl⟩:=aF h;have hsd:=M.size;have HR:=H (h.alloc (Vc #[I J f] 3));have j:=H (CR (wd.alloc (Vc #[I J f] 3)) (F (X wd)) (I J f) 3 (aG wd _));have Vu:=H (λ(w5:W8)(hg:(wd.alloc (Vc #[I J f] 3)).grownBy w5 (U TE (Z m) Ud).ownBlock)=>ib (M.alloc hsd (Vc #[I J f] 3)) (ak.jF hg) oT (λx hx=>(h.lt x (oU hx)).1));clear h M ue uV w2;go_upto_region 17 with fail
      go_cut [12] from 39 to 81 (λv we=>we.ownsRow (F (X wA)) 3 1 v (Z m+1) (nM (m++[f]))/\Below (F (X wA)) wA we)
      case first=>
       go_wp2_with(at_builtin;go_must (refine wpList_append_lies _ rfl _ _ _ rfl (F (X wA)) 3 i0 (I J 0) 1 8 underlying24 sF gB dx cB rfl oD (U TE (Z m) Ud) (Z m) (nM m) rfl (ag HR) (C (F (X wd)) 0 G) 1 1 [I J f] rfl rfl (ag j) (by simp[Value.oneCell']) oD oM O oT _ rfl ?_;intro g L w5 d V S rP));go_meet
       case rel=>exact⟨by rw[aho];exact d,ag Vu w5 V⟩
      case rest=>clear HR j Vu;generalize wc=we at*;obtain⟨h,M⟩:=hcut;obtain⟨v,x,rfl⟩:=aF h;have hse:=M.size;have It:=(ag yg).zm M;have ID:=(ag KN).ai M;have p:=(M.block b IB).trans (ag Gd);obtain⟨_,rf0⟩:=aj p 0;obtain⟨_,rf1⟩:=aj p 1;have Cz:sy we (F (X w)+1) ⟨W,m++[f],U t (Z W) y,U u (Z W) z,U v (Z m+1) x⟩:=⟨⟨aX ID.ns O,aX ID.ts O,ID.nil⟩,by rw[br];exact aX h O,λe=>by simp at e⟩;obtain⟨iw,NV,vK,kW,qH⟩:=info_parts XT;have HR:=H (It.next.row.alloc (Vc #[U t (Z W) y,U u (Z W) z,U v (Z m+1) x] 325));have j:=H (World.news_of_block (aG we (Vc #[U t (Z W) y,U u (Z W) z,U v (Z m+1) x] 325)));have agc:=H (λ(w5:W8)(g L:Nat) hg Of yQ=>jJ.add (w5:=w5) (g:=g) (cap:=L) (W:=we.alloc (Vc #[U t (Z W) y,U u (Z W) z,U v (Z m+1) x] 325)) It Cz ((ak.refl [] _).alloc _) hg Of yQ);have yV:=It.lt;clear h M It ID p Cz rf0 rf1 yg KN Gd;go_wp2_with(at_builtin;go_must (refine wpList_append_lies _ rfl _ _ _ rfl (F (X w)+1) 325 iw (Va #[U G 0 0,U G 0 0,U G 0 0]) 3 72 underlying322 NV vK kW qH rfl oD (U a7 (Z c) c7) (Z c) _ rfl (ag HR) (C (F (X we)) 0 G) 1 1 [U t (Z W) y,U u (Z W) z,U v (Z m+1) x] rfl rfl (ag j) (by simp[Value.oneCell']) oD oM O oT _ rfl ?_;intro g L w5 d V S rP));have p:=H (ag agc w5 g L V d S);go_roundg(Z l-(f+1));exact⟨f+1,c++[⟨W,m++[f],U t (Z W) y,U u (Z W) z,U v (Z m+1) x⟩],O,rfl,oN,ag p,by rw[fg];exact ag Gj⟩;omega
  have b:=H (show c.map (·.W)=T by rw[<-ag HF,gE oT];simp[jU]);clear HF;go_wp2_with fail;exact ag HX _ _ _ _ _ _ _ _ _ _ _ _ _ _ _ _ _ _ _ _ _ _ _ _ _ _ _ _ _ _ _ _ _ _ _ _ _ _ _ _ _ _ _ _ _ _ _ _ _ _ (ag HI) (ag b)
def nL(n:Nat)(f:Nat->V9):Array V9:=((List.range n).map f).toArray
def xh(n f):(nL n f).size=n:=by simp[nL]
variable {a b:Nat}{d f:Nat->V9}
def Ev(h:b<a):(nL a f)[b]?=P (f b):=by simp[nL,h]
def Im(n z):madeCells #[z] n=nL n (λ_=>z):=by
 apply DE;intro i
 by_cases h:i<n
 .rw[Jb z n i h,Ev h]
 rw[zJ (by simp[madeCells];omega),zJ (by rw[xh];omega)]
variable {h:V9}
def afH :(nL a f).setIfInBounds b h=nL a (λj=>if j=b then h else f j):=by
 apply DE;intro j;rw[SU]
 by_cases i:j<a
 .rw[Ev i,Ev i]
  split
  .rename_i e;subst e;rw[aD (by rw[xh];exact i),aD rfl]
  rename_i e;rw[aB (λn=>e n.symm)]
 rw[zJ (xs:=nL a f) (by rw[xh];omega),zJ (by rw[xh];omega)]
 split
 .rename_i e;subst e;rw[aB (by rw[xh];exact i)]
 rfl
def afF(h:∀i,i<a->f i=d i):nL a f=nL a d:=by unfold nL;rw[uh λi n=>h i (tj.1 n)]
def gd(w:W8)(b:Nat)(T:TypeId)(n:Nat)(f:Nat->V9):Prop:=w.heap[b]?=P (Vc (nL n f) T)
def gd.start(w T n z):gd (Al w (Vc (madeCells #[z] n) T)) (F (X w)) T n (λ_=>z):=by unfold gd;rw[<-Im];exact aG w _
variable {c e:W8}
def gd.set{b T}(h:gd c b T a f)(i v):gd (Sc c (C b i G) v) b T a (λj=>if j=i then v else f j):=by unfold gd;rw[vg c b i _ T (0,0) v h,<-afH];exact kn _ _ _ _ _ _ h
def gd.cell{T}(h:gd c b T a f){i}(w:i<a):Ce c (C b i G)=P (f i):=by rw[(aj h i).1,Ev w]
def gd.fz{T}(h:gd c b T a f)(i):c.frozen? (C b i G)=false:=(aj h i).2
def gd.lt{T}(h:gd c b T a f):b<F (X c):=(aM.1 h).1
def gd.eq{T}(h:gd c b T a f)(e:∀i,i<a->f i=d i):gd c b T a d:=by unfold gd at h⊢;rw[h,afF e]
def gd.block{T}(h:gd c b T a f)(w:e.heap[b]?=c.heap[b]?):gd e b T a f:=w.trans h
def gd.ai{T}(h:gd c b T a f)(k:Below (F (X c)) c e):gd e b T a f:=(k.block b h.lt).trans h
def gd.jk{g:Nat->Nat}(h:gd c b 3 a (λi=>I J (g i:Nat)))(w:a<=maxLen){base:Nat}(n:base<=b):Ow c base 3 1 (U (P (C b 0 G)) a a) a (jk ((List.range a).map g)):=by refine⟨by simp[Go.Proofs.YtldkpahaocjdpaaGreat.jk],.inr ⟨b,a,_,rfl,n,h,bD _,w,by rw[xh];omega,?_⟩⟩;simp only[nL,Go.Proofs.YtldkpahaocjdpaaGreat.jk,km,yo];rw[j7 oS];rfl
variable {g:Option Nat}
def Uc{A t d}(h:c.heap[b]?=P (Vc A t d))(a:c.grownBy e g)(j:∀i,g=P i->∃o,c.heap[i]?=P o/\o.isCells=Bf):e.heap[b]?=P (Vc A t d):=
 (a.block b (aM.1 h).1 (λB=>by obtain⟨o,i,f⟩:=j b B.symm;rw[h]at i;cases i;cases f)).trans h
def Zp{A n d}(v:c.ownsRow a A b h n d)(k:c.grownBy e g)(l:∀i,g=P i->∃o,c.heap[i]?=P o/\o.isCells=Bf):e.ownsRow a A b h n d:=by
 refine gC v λB i=>?_
 rcases v.2 with⟨j,_⟩|⟨f,_,_,rfl,_,o,_⟩
 .rw[j]at i;cases i
 have A:f=B:=by simpa[Value.ownBlock]using i
 subst A;rw[Uc o k l,o]
def bU.setCell{d}(h:bU d c e)(w:F (X c)<=b\/d b)(v):bU d c (Sc e (C b a G) v):=
 ⟨h.os,h.tape,h.output,by simpa using h.size,λi o f g j=>by
  have k:=h.same i o f g j;have o:i≠b:=λj=>by
   subst j;rcases w with w|w
   .have:=(aM.1 f).1;omega
   exact g w
  rw[cx _ _ _ _ (oU o)]
  exact k⟩
end
end Go.Proofs.YtldkpahaocjdpaaGreat
