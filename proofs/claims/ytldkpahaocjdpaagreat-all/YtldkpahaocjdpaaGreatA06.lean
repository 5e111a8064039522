/-
  Plain: the program's tokens are the reference's: the same kind, the same place, the same end.
-/
import Derived.Test.YtldkpahaocjdpaaGreatA04
import Derived.Laws.Strings
import Derived.Lib.Builder
import Derived.Lib.AppendStr
import Derived.Lib.UnsafeStr
import Derived.Laws.Externs
import Derived.OwnWalk
import Derived.Maps.AppendAt
import Derived.Lib.Hide
import Derived.Maps.OwnSet
import Derived.Maps.RangeWalk
import Derived.DeepKeys4
import Derived.WideKeyArr
import Derived.RangeFuncSeq
import Derived.Calls
import Derived.StepT
set_option maxHeartbeats 16000000
set_option maxRecDepth 1000000
namespace Go.Proofs.YtldkpahaocjdpaaGreat
open Go.Value renaming slice->U,int->I,string->Y,bool->Vb,pointer->Vp,agg->Va,tuple->Vt
open Go.IntKind renaming i64->J
open Go.Ending renaming returned->Vr
open Go.Obj renaming cells->Vc
open _root_.Option renaming none->G,some->P
open _root_.Bool renaming true->Bt,false->Bf
open Go.Addr renaming mk->C
open _root_.List renaming length->Z
open Go.World renaming heap->X,alloc->Al,setCell->Sc,cell?->Ce,ownsRow->Ow
open _root_.Array renaming size->F
open Go.Proofs.Tryz
set_option linter.defProp false
section
def sV(t:Tk):Int:=
 if t.kind=46 then 0 else if t.kind=33 then 1 else if t.kind=110 then 2 else if t.kind=118 then 3 else if t.kind=119 then 4
 else if t.text.toList=[40] then 5 else if t.text.toList=[41] then 6 else if t.text.toList=[44] then 7 else if t.text.toList=[46] then 8 else 9
def Il(s:B8)(k n)(h:k+n<=s.size):(s.extract k s.size).extract 0 n=s.extract k (k+n):=by
 apply ByteArray.ext;simp[ByteArray.data_extract,Array.extract_extract]
 congr 1
 have:s.data.size=s.size:=rfl;omega
def Nd(s:B8)(k)(h:k<s.size):(s.extract k (k+1)).toList=[s[k]]:=by
 rw[ByteArray.toList_eq,apw,Array.toList_extract];have a:Z s.data.toList=s.size:=by rw[Bq];rfl
 rw[S8];have e:k+1-k=1:=O
 rw[e,dM O];simp[List.take];rfl
def UY(s:B8)(k)(h:k+1<s.size):(s.extract k (k+2)).toList=[s[k],s[k+1]]:=by
 rw[ByteArray.toList_eq,apw,Array.toList_extract];have a:Z s.data.toList=s.size:=by rw[Bq];rfl
 rw[S8];have e:k+2-k=2:=O
 rw[e,dM O,dM O];simp[List.take];exact⟨rfl,rfl⟩
def Q7(a c:UInt8):a=c↔(a.toNat:Int)=(c.toNat:Int):=by
 constructor
 .intro h;rw[h]
 intro h;exact Mb.1 O
def amc(s k)(f:k<s.size):qN (s.extract k s.size) =if jw s k=0 then(1,1) else if jw s k=2 then(9,2) else(sV ⟨115,s.extract k (k+1),k,k+1⟩,1):=by
 have l:(s.extract k s.size).size=s.size-k:=yI s k;have i:((s.extract k s.size).extract 0 1).toList=[s[k]]:=by rw[Il s k 1 O,Nd s k f]
 have j:1<=(s.extract k s.size).size:=O
 have r:=Nd s k f;unfold qN sV;simp only[i,j,BL,r,zN,vf];simp only[Q7];unfold jw;rw[tr f]
 by_cases a:(s[k].toNat:Int)=58
 .rw[aD a];have e:¬(s[k].toNat:Int)=((40:UInt8).toNat:Int):=by rw[a];decide
  have m:¬(s[k].toNat:Int)=((41:UInt8).toNat:Int):=by rw[a];decide
  have n:¬(s[k].toNat:Int)=((44:UInt8).toNat:Int):=by rw[a];decide
  have o:¬(s[k].toNat:Int)=((46:UInt8).toNat:Int):=by rw[a];decide
  rw[aB e,aB m,aB n,aB o]
  by_cases c:k+1<s.size
  .have d:((s.extract k s.size).extract 0 2).toList=[s[k],s[k+1]]:=(by rw[Il s k 2 O,UY s k c]);rw[tr c,d];have g:2<=(s.extract k s.size).size:=O;simp only[g,BL,zN,vf,Q7]
   by_cases b:(s[k+1].toNat:Int)=45
   .rw[aD ⟨by rw[a];rfl,by rw[b];rfl⟩,aD b];simp
   rw[aB (λh=>b (by rw[h.2];rfl)),aB b];simp
  rw[DV c,aB O];simp
 rw[aB a];have q:¬(2<=(s.extract k s.size).size/\((s.extract k s.size).extract 0 2).toList=[58,45]):=by
  rintro⟨g,h⟩;rw[Il s k 2 O,UY s k O]at h;injection h with h _
  exact a (by rw[h];rfl)
 rw[aB q]
 by_cases b:(s[k].toNat:Int)=40
 .simp[b]
 by_cases c:(s[k].toNat:Int)=41
 .simp[c]
 by_cases d:(s[k].toNat:Int)=44
 .simp[d]
 by_cases e:(s[k].toNat:Int)=46
 .simp[e]
 have m:¬(s[k].toNat:Int)=((40:UInt8).toNat:Int):=b;have n:¬(s[k].toNat:Int)=((41:UInt8).toNat:Int):=c;have o:¬(s[k].toNat:Int)=((44:UInt8).toNat:Int):=d;have p:¬(s[k].toNat:Int)=((46:UInt8).toNat:Int):=e;rw[aB m,aB n,aB o,aB p];simp[b,c,d,e]
def amf(s k):jw s k=0\/jw s k=1\/jw s k=2:=by
 unfold jw
 split
 .split
  .split
   .split<;>simp
   simp
  split<;>simp
 simp
def alY(s i)(t:i<=s.size):aE s i=(sV (az s i),(az s i).aC,(az s i).zto):=by
 have p:=uR dU s i t;unfold aE az;generalize skip dU s i=k at*;have u:=yI s k
 by_cases q:s.size<=k
 .have e:k=s.size:=O
  rw[qO,aD q];unfold ng;rw[DV O];simp[sV,e]
 have c:k<s.size:=O
 have w:=QF bO s k p;have v:=QF di s k p;have m:0<(s.extract k s.size).size:=O
 have n:(s.extract k s.size)[0]=s[k]:=by have:=Nc s k 0 O m;simpa using this
 rw[qO,aB q];unfold ng;rw[tr m]
 by_cases b:k<skip bO s k
 .have g:bO s[k].toNat=true:=by
   cases d:bO s[k].toNat with
   |true=>rfl
   |false=>rw[vZ bO s k c d]at b;omega
  have j:skip bO (s.extract k s.size) 0=skip bO s k-k:=O
  have r:=uR bO s k p;have f:(s.extract k s.size).extract 0 (skip bO s k-k)=s.extract k (skip bO s k):=by rw[Il s k _ O];congr 1;omega
  rw[aD (by rw[n];exact g),aD b];unfold tN;rw[j,f]
  by_cases l:8<skip bO s k-k
  .have a:¬(s.extract k (skip bO s k)).toList=[110,111,116]:=by
    intro e;have:(s.extract k (skip bO s k)).toList.length=3:=by rw[e];rfl
    rw[ByteArray.toList_eq,Bq]at this;have o:(s.extract k (skip bO s k)).data.size=(s.extract k (skip bO s k)).size:=rfl;rw[o,DI]at this;omega
   rw[aD l,aB a,aB O];simp[sV];omega
  by_cases a:(s.extract k (skip bO s k)).toList=[110,111,116]
  .rw[aB l,aD a,aD a];simp[sV];omega
  rw[aB l,aB a,aB a,aD O];simp[sV];omega
 have g:bO s[k].toNat=false:=by
  cases d:bO s[k].toNat with
  |false=>rfl
  |true=>have r:=vY bO s k c d;have o:=aak bO s (k+1);omega
 rw[aB (by rw[n,g];decide),aB b]
 by_cases a:k<skip di s k
 .have f:di s[k].toNat=true:=by
   cases d:di s[k].toNat with
   |true=>rfl
   |false=>rw[vZ di s k c d]at a;omega
  have j:skip di (s.extract k s.size) 0=skip di s k-k:=O
  rw[aD (by rw[n];exact f),aD a];unfold wo;rw[j]
  by_cases l:8<skip di s k-k
  .rw[aD l,aB O];simp[sV];omega
  rw[aB l,aD O];simp[sV];omega
 have f:di s[k].toNat=false:=by
  cases d:di s[k].toNat with
  |false=>rfl
  |true=>have r:=vY di s k c d;have o:=aak di s (k+1);omega
 rw[aB (by rw[n,f];decide),aB a,amc s k c];rcases amf s k with h|h|h
 .rw[aD h,aD h];simp[sV]
 .rw[aB O,aB O,aB O,aB O]
 rw[aB O,aD h,aB O,aD h];have e:(⟨#[58,45]⟩:B8).toList=[58,45]:=by rw[ByteArray.toList_eq]
 simp[sV,e]
open Go.RowKit
variable {a b:B8}
def kJ :(a.toList==b.toList)=Bt↔a=b:=by rw[qV,ByteArray.toList_eq,ByteArray.toList_eq];exact⟨λh=>SX (LA.1 h),λh=>by rw[h]⟩
def Yg:∀x:List UInt8,Op.bytesLess x x=Bf
 | []=>rfl
 |a::r=>by simp[Op.bytesLess,Yg r]
def Yh:∀x y z:List UInt8,Op.bytesLess x y=Bt->Op.bytesLess y z=Bt->Op.bytesLess x z=Bt
 |_,[],_,h,_=>by simp[Op.bytesLess]at h
 |_,_::_,[],_,h=>by simp[Op.bytesLess]at h
 | [],_::_,_::_,_,_=>rfl
 |a::x,b::y,c::z,e,d=>by
  simp only[Op.bytesLess,zM,pE,qW,qV]at e d⊢;rcases e with e|⟨rfl,e⟩
  .rcases d with d|⟨rfl,_⟩
   .exact .inl (UInt8.lt_trans e d)
   exact .inl e
  rcases d with d|⟨rfl,d⟩
  .exact .inl d
  exact .inr ⟨rfl,Yh x y z e d⟩
def Yi:∀x y:List UInt8,Op.bytesLess x y=Bf->Op.bytesLess y x=Bf->x=y
 | [],[],_,_=>rfl
 | [],_::_,h,_=>by simp[Op.bytesLess]at h
 |_::_,[],_,h=>by simp[Op.bytesLess]at h
 |a::x,b::y,h1,h2=>by
  simp only[Op.bytesLess,Bool.or_eq_false_iff,Bool.and_eq_false_iff,Mg,BK,ne_eq]at h1 h2;have c:=UInt8.le_antisymm (UInt8.not_lt.1 h2.1) (UInt8.not_lt.1 h1.1);subst c;rw[Yi x y (h1.2.resolve_left (λh=>h rfl)) (h2.2.resolve_left (λh=>h rfl))]
def fc(x y:B8):Bool:=Op.bytesLess x.toList y.toList
def Ay(x):fc x x=false:=Yg _
def CI{x}(y:fc x a=Bt)(z:fc a b=Bt):fc x b=true:=Yh _ _ _ y z
def Fo{x}(y:fc x a=Bf)(b:fc a x=Bf):x=a:=kJ.1 (by rw[qV];exact Yi _ _ y b)
def mY(x y:B8):Int:=if fc x y then -1 else if x.toList==y.toList then 0 else 1
def aaj:(prog.info? 155).map (·.size)=P 2:=oK
def ahO:liesAt prog prog.depth 155 (2/prog.cellsOf 155) 0 155 1=true:=oK
def zg:(prog.info? 5).map (λi=>(i.zero,i.size,i.bytes))=P (P (I .u8 0),1,1):=oK
def aeM(b w)(c:Ce w (C b 0 G)=P (Vp (P (C b 0 G)))):Calls prog 169 #[Vp (P (C b 0 G))] w λe a=>e=Vr (Vt #[])/\a=w:=by
 obtain⟨_,e,_⟩:=DR.1 aaj;go_in
 go_wp2
 rw[Lib.run_neq_ptr_same w _ underlying153 e]
 go_wp2
 go_end0;exact⟨rfl,rfl⟩
def aeL(b w)(f:Ce w (C b 0 G)=P (Vp G))(a:w.shape? b=P (155,2))(d:w.frozen? (C b 0 G)=Bf):Calls prog 169 #[Vp (P (C b 0 G))] w λe c=>e=Vr (Vt #[])/\c=Sc w (C b 0 G) (Vp (P (C b 0 G))):=by
 obtain⟨_,c,e⟩:=DR.1 aaj;go_in
 go_wp2
 rw[Lib.run_to_unsafe w (C b 0 G) underlying153 underlying349 c (by rw[e];decide) a (Nat.zero_lt_succ 1)];simp only[Result.andThen];rw[Ma]
 go_wp2
 rw[run_callFunc_extern func219 oK oK oK (e:=Extern.AbiNoEscape.same) oK];rw[Lib.run_noEscape];simp only[Result.andThen];rw[Ma]
 go_wp2
 rw[Lib.run_from_unsafe w (C b 0 G) underlying349 underlying153 c a ahO];simp only[Result.andThen];rw[Ma]
 go_wp2
 go_end0;exact⟨rfl,rfl⟩
def iG(w w':W8):Prop:=∀(x:Nat)(c:Array V9)(e:TypeId)(fr:Nat×Nat),w.heap[x]?=P (Vc c e fr)->e≠155->e≠5->w'.heap[x]?=P (Vc c e fr)
def iG.refl(w):iG w w:=λ_ _ _ _ h _ _=>h
variable {a b:W8}
def iG.trans{c}(h:iG a b)(k:iG b c):iG a c:=λx d e f j g i=>k x d e f (h x d e f j g i) g i
def iG.alloc(h:iG a b)(o):iG a (Al b o):=λx c e d i f g=>by
 have w:=h x c e d i f g;rw[aW _ _ _ (aM.1 w).1];exact w
variable {c:Nat}
def iG.setCell{d f}(i:a.heap[c]?=P (Vc d 155 f))(o v):iG a (Sc a (C c o G) v):=λx b e h w g _=>by
 rw[cx _ _ _ _ (by
  intro h;simp at h;subst h;rw[i]at w;injection w with w
  injection w with _ w _
  exact g w.symm)]
 exact w
variable {d:V8}{e:V9}
def iG.grown{B}(w:Ow a B 5 1 e c d)(g:a.grownBy b e.ownBlock):iG a b:=λx v i h n _ f=>by
 rw[g.block x (aM.1 n).1 (λh=>?_)]
 .exact n
 rcases w.2 with⟨rfl,_⟩|⟨_,_,_,rfl,_,x,_⟩
 .cases h
 injection h with h
 simp only at h;subst h;rw[n]at x;injection x with x
 injection x with _ x _
 exact f x
def iG.tM{v w n}(k:iG a b)(h:Ow a c v w e n d)(m:v≠155)(o:v≠5):Ow b c v w e n d:=by
 refine⟨h.1,?_⟩;rcases h.2 with q|⟨g,l,f,rfl,p,i,j⟩
 .exact .inl q
 exact .inr ⟨g,l,f,rfl,p,k g _ _ _ i m o,j⟩
def Um(B b c w)(h:Lib.IsBuilder 155 5 B b c w):Calls prog 169 #[Vp (P (C b 0 G))] w λe a=>e=Vr (Vt #[])/\Lib.BuilderAt 155 5 B b (Vp (P (C b 0 G))) c a/\Below B w a/\iG w a:=by
 rcases h with h|h
 .refine(aeL b w h.cell0 h.shape h.frozen0).mono ?_;rintro e a⟨rfl,rfl⟩;obtain⟨_,_,d,_⟩:=id h;exact⟨rfl,h.used _,(aZ B w).setCell (p:=(C b 0 G)) h.1 _,iG.setCell d 0 _⟩
 refine(aeM b w h.cell0).mono ?_;rintro e a⟨rfl,rfl⟩;exact⟨rfl,h,aZ B _,iG.refl _⟩
def aer(a x b j u)(h:([x]:V8)[j]?=P u):Ce (Al a (Vc #[x] b)) (((C (F (X a)) 0 G):Addr).add j)=P u:=cell_one_new a x b j u h
def ajp(c):∀u∈([I .u8 c]:V8),u.oneCell'=true:=by intro u a;simp at a;subst a;rfl
def qy(l:List UInt8):V8:=l.map λb=>I .u8 b.toNat
def aei(l s):qy l++Lib.strCells s=qy (l++s.data.toList):=by simp[qy,Lib.strCells]
def aeh(l c):qy l++[I .u8 c.toNat]=qy (l++[c]):=by simp[qy]
def TZ(l):(qy l).length=Z l:=by simp[qy]
def Holds(B b:Nat)(l:List UInt8)(w:W8):Prop:=Lib.IsBuilder 155 5 B b (qy l) w
def AV(B b l s w)(h:Holds B b l w)(E:Z l+s.size<=140737488355328)(R:B<=F (X w)):Calls prog 111 #[Vp (P (C b 0 G)),Y s] w λe x=>e=Vr (Vt #[I J s.size,.nilIface])/\Holds B b (l++s.data.toList) x/\Below B w x/\iG w x:=by
 obtain⟨V,S,x,y,z⟩:=info_parts zg;have r:=TZ l;go_in;go_wp2_with fail;refine(Um B b (qy l) _ h).mono ?_;rintro e A⟨rfl,N,m,o⟩;obtain⟨D,v,i,d,u⟩:=N;have N:Ce A (C b 0 G)=P (Vp (P (C b 0 G))):=by rw[Lib.cell_of_heap i];rfl
 have Q:Ce A (C b 1 G)=P v:=by rw[Lib.cell_of_heap i];rfl
 have hz:=m.size;go_wp2_with(at_builtin;refine Lib.wpList_append_own_string _ rfl _ _ 47 9 rfl B 5 V underlying47 underlying9 S x y z _ _ _ rfl d s rfl oM O O ?_);intro W q c a _;have t:b<F (X A):=(aM.1 i).1;have g:q.heap[b]?=P (Vc #[Vp (P (C b 0 G)),v] 155):=by rw[a.block b t (λe=>u e.symm)];exact i
 have d0:Ce q (C b 0 G)=P (Vp (P (C b 0 G))):=by rw[Lib.cell_of_heap g];rfl
 have d1:Ce q (C b 1 G)=P v:=by rw[Lib.cell_of_heap g];rfl
 have f1:=Lib.frozen_of_heap g 1;obtain⟨n,p,f,rfl⟩:∃n p f,W=U n p f:=by
  rcases c.2 with⟨j,_⟩|⟨_,f,_,j,_⟩
  .exact⟨_,_,_,j⟩
  exact⟨_,_,_,j⟩
 have j:=Lib.BuilderAt.put (T:=155) (e:=5) D g (v':=U n p f) (bs':=qy l++Lib.strCells s) (by rw[br,Lib.strCells_length,r];exact c) oD;rw[aei]at j;have M:=H j;have L:=H ((o.trans (iG.grown d a)).trans (iG.setCell g 1 (U n p f)));have K:=H ((m.grown a O (λk T=>(d.lt k T).1)).setCell (p:=(C b 1 G)) D (U n p f));clear j c a m d i g N Q o;go_wp2
 go_ret2
 exact⟨rfl,.inr M,K,L⟩
def Rg(B b l c w)(h:Holds B b l w)(E:Z l+1<=140737488355328)(R:B<=F (X w)):Calls prog 167 #[Vp (P (C b 0 G)),I .u8 c.toNat] w λe y=>e=Vr .nilIface/\Holds B b (l++[c]) y/\Below B w y/\iG w y:=by
 obtain⟨V,S,y,z,A⟩:=info_parts zg;have t:=TZ l;go_in;go_wp2_with fail;refine(Um B b (qy l) _ h).mono ?_;rintro e r⟨rfl,N,n,p⟩;obtain⟨D,v,j,f,x⟩:=N;have N:Ce r (C b 0 G)=P (Vp (P (C b 0 G))):=by rw[Lib.cell_of_heap j];rfl
 have Q:Ce r (C b 1 G)=P v:=by rw[Lib.cell_of_heap j];rfl
 have hz:=n.size;go_wp2_with(at_builtin;refine ka _ rfl _ _ 47 rfl B 5 V (I .u8 0) 1 1 underlying47 S y z A rfl oD _ _ _ rfl (f.alloc _) (C (F (X r)) 0 G) 1 1 [I .u8 c.toNat] rfl rfl (aer r _ _) (ajp _) oM O oT ?_);intro W s d a _;have u:b<F (X r):=(aM.1 j).1;have i:s.heap[b]?=P (Vc #[Vp (P (C b 0 G)),v] 155):=by rw[a.block b oT (λe=>x e.symm),aW _ _ _ u];exact j
 have d0:Ce s (C b 0 G)=P (Vp (P (C b 0 G))):=by rw[Lib.cell_of_heap i];rfl
 have d1:Ce s (C b 1 G)=P v:=by rw[Lib.cell_of_heap i];rfl
 have f1:=Lib.frozen_of_heap i 1;obtain⟨o,q,g,rfl⟩:∃o q g,W=U o q g:=by
  rcases d.2 with⟨m,_⟩|⟨_,g,_,m,_⟩
  .exact⟨_,_,_,m⟩
  exact⟨_,_,_,m⟩
 have m:=Lib.BuilderAt.put (T:=155) (e:=5) D i (v':=U o q g) (bs':=qy l++[I .u8 c.toNat]) (by rw[br,t];exact d) oD;rw[aeh]at m;have M:=H m;have L:=H (((p.alloc _).trans (iG.grown (f.alloc _) a)).trans (iG.setCell i 1 (U o q g)));have K:=H (((n.alloc O _).grown a oT (λk T=>(f.lt k T).1)).setCell (p:=(C b 1 G)) D (U o q g));clear m d a n f j i N Q p;go_wp2;go_ret;exact⟨rfl,.inr M,K,L⟩
structure qm(w:W8)(m bn:Nat)(neg:Bool)(pd:B8)(tv:V9)(start place:Nat)(pl:Nat->Nat):Prop where
 lt:m<F (X w)
 c0:Ce w (C m 0 G)=P (I J bn)
 c1:Ce w (C m 1 G)=P (Vb neg)
 c2:Ce w (C m 2 G)=P (Y pd)
 c3:Ce w (C m 3 G)=P tv
 c4:Ce w (C m 4 G)=P (I J start)
 c5:Ce w (C m 5 G)=P (I J place)
 cp:∀i,i<4->Ce w (C m (6+i) G)=P (I J (pl i))
 fz:∀o,w.frozen? (C m o G)=Bf
variable {g:Bool}{h l:B8}{a b e f n o p:Nat}{i:Nat->Nat}{c j:V9}{d k q:W8}
def qm.kept{B}(l:qm d f e g h j b a i)(w:ak B d k)(c:f∉B):qm k f e g h j b a i:=
 ⟨iz l.lt w.size,(w.cell l.lt c).trans l.c0,(w.cell l.lt c).trans l.c1,(w.cell l.lt c).trans l.c2,(w.cell l.lt c).trans l.c3,(w.cell l.lt c).trans l.c4,(w.cell l.lt c).trans l.c5,λm o=>(w.cell l.lt c).trans (l.cp m o),λo=>(w.frozen l.lt c).trans (l.fz o)⟩
def r9(pl:Nat->Nat)(i v:Nat):Nat->Nat:=λa=>if a=i then v else pl a
def qz(h:Ce d (C b o G)=P c):Ce (Sc d (C b o G) j) (C b o G)=P j:=by go_simp
def iA(h:¬(b=a/\o=e)):Ce (Sc d (C b o G) c) (C a e G)=Ce d (C a e G):=by
 by_cases v:b=a
 .subst v;have w:o≠e:=λv=>h ⟨rfl,v⟩
  unfold World.cell? World.setCell;simp only[zK,lM]
  cases d.heap[b]? with
  |none=>rfl
  |some x=>cases x<;>simp[w]
 exact j8 (w:=d) (cx d (C b o G) c a oT)
def qm.r9(j:qm d a f g h c e b i)(k v:Nat)(n:k<4):qm (Sc d (C a (6+k) G) (I J v)) a f g h c e b (Go.Proofs.YtldkpahaocjdpaaGreat.r9 i k v):=by
 refine⟨by simpa using j.lt,?_,?_,?_,?_,?_,?_,λw m=>?_,λo=>by simpa using j.fz o⟩
 .rw[iA O];exact j.c0
 .rw[iA O];exact j.c1
 .rw[iA O];exact j.c2
 .rw[iA O];exact j.c3
 .rw[iA O];exact j.c4
 .rw[iA O];exact j.c5
 by_cases l:w=k
 .subst l;rw[qz (j.cp w m)];simp[Go.Proofs.YtldkpahaocjdpaaGreat.r9]
 rw[iA O,j.cp w m];simp[Go.Proofs.YtldkpahaocjdpaaGreat.r9,l]
def qm.am8(m:qm d a e g h j f b i)(v):qm (Sc d (C a 3 G) v) a e g h v f b i:=by
 refine⟨by simpa using m.lt,?_,?_,?_,qz m.c3,?_,?_,λw c=>?_,λo=>by simpa using m.fz o⟩
 .rw[iA O];exact m.c0
 .rw[iA O];exact m.c1
 .rw[iA O];exact m.c2
 .rw[iA O];exact m.c4
 .rw[iA O];exact m.c5
 rw[iA O];exact m.cp w c
def jm(l:List (Bool×B8)):V8:=l.map λt=>nX t.1 t.2
def dT(s:B8):Nat->Nat->List (Bool×B8)->(Nat->Nat)->Bool×Nat×List (Bool×B8)×(Nat->Nat)
 | 0,pos,l,pl=>(Bf,pos,l,pl)
 |f+1,pos,l,pl=>
  if(aE s pos).1=2\/(aE s pos).1=3 then
   (if(aE s (aE s pos).2.2).1=7 then dT s f (aE s (aE s pos).2.2).2.2 (l++[(decide ((aE s pos).1=3),hU s pos)]) (r9 pl (Z l) (aE s pos).2.1)
   else(decide ((aE s (aE s pos).2.2).1=6),bR s (aE s pos).2.2 6,l++[(decide ((aE s pos).1=3),hU s pos)],r9 pl (Z l) (aE s pos).2.1))
  else(Bf,pos,l,r9 pl (Z l) (aE s pos).2.1)
structure pK(w:W8)(b m:Nat)(s:B8)(bn:Nat)(mv:V9)(rn:Nat)(neg:Bool)(pd:B8)(start place:Nat)(l:List (Bool×B8))(pos:Nat)(pl:Nat->Nat)(tv:V9)(wr:W8):Prop where
 ek:fX wr b s pos bn mv
 hp:pos<=s.size
 mc:qm wr m rn neg pd tv start place pl
 tM:Ow wr (F (X w)) 191 1 tv (Z l) (jm l)
 kept:ak [b,m] w wr
 bm:b≠m
 bw:b<F (X w)
 mw:m<F (X w)
variable {m:List (Bool×B8)}
def pK.call{s}(w:pK d b f h e c p g l n a m o i j k)(wr:ak [b] k q)(t:fX q b h s e c)(r:s<=h.size):pK d b f h e c p g l n a m s i j q:=
 have u:=w.bm;have v:=w.bw
 ⟨t,r,w.mc.kept wr oT,ni w.tM wr oT,w.kept.trans (wr.mono oS),w.bm,w.bw,w.mw⟩
def pK.place(w:pK d b o h e c n g l p a m f i j k)(wr v)(q:wr<4):pK d b o h e c n g l p a m f (r9 i wr v) j (Sc k (C o (6+wr) G) (I J v)):=
 have r:=w.bm;have s:=w.mw
 ⟨w.ek.kept ((ak.refl [o] _).setCell oS _) oT,w.hp,w.mc.r9 wr v q,fh w.tM (oU s) _,w.kept.setCell oS _,w.bm,w.bw,w.mw⟩
def pK.drew(w:pK d b o h e c n g l p a m f i j k):pK d b o h e c n g l p a m f i j k.drew:=
 have s:=(ak.refl [] k).drew
 ⟨w.ek.kept s oS,w.hp,w.mc.kept s oS,ni w.tM s oS,w.kept.drew,w.bm,w.bw,w.mw⟩
def pK.append{L}(A:pK d b e h n L f g l p a m o i c k){v}(t)(r:Ow q (F (X d)) 191 1 j (Z m+1) (jm m++[nX t.1 t.2])) (D:(Al k v).grownBy q c.ownBlock):pK d b e h n L f g l p a (m++[t]) o i j (Sc q (C e 3 G) j)/\qm q e f g l c p a i:=by
 have N:=A.bm;have M:=A.bw;have B:=A.mw;have y:∀z,c.ownBlock=P z->F (X d)<=z:=λz s=>(A.tM.lt z s).1
 have K:ak c.ownBlock.toList k q:=((ak.refl _ k).alloc v).grown D (λz s=>.inr (by simp[s]));have w:∀z,z<F (X d)->z∉c.ownBlock.toList:=by
  intro z Q E
  cases u:c.ownBlock with
  |none=>simp[u]at E
  |some x=>simp[u]at E;have:=y x u;omega
 have u:=A.mc.kept K (w _ B);refine⟨⟨(A.ek.kept K (w _ M)).kept ((ak.refl [e] _).setCell oS _) oT,A.hp,u.am8 j,?_,?_,A.bm,A.bw,A.mw⟩,u⟩
 .have:=fh r (a:=(C e 3 G)) (oU B) j;simpa[jm]using this
 exact((A.kept.alloc v).grown D (λz s=>.inl (y z s))).setCell oS _
def XS:(prog.info? 191).map (λi=>(i.zero,i.size,i.bytes))=P (P .nilIface,1,16):=oK
def PW(a v):∀j u,([v]:V8)[j]?=P u->Ce (Al a (Vc #[v] 191)) (((C (F (X a)) 0 G):Addr).add j)=P u:=by
 intro j u b;have e:((C (F (X a)) 0 G):Addr).add j=(C (F (X a)) j G):=by unfold Addr.add;split<;>simp_all
 rw[e,World.cell?_alloc_at _ _ _ _ rfl];simpa using b
def PX(v t):∀u∈[nX v t],u.oneCell'=true:=by intro u a;simp at a;subst a;rfl
def aaT(w b m s j i D rn B pd g f L)(p:fX w b s j i D)(l:qm w m rn B pd (U G 0 0) g f L)(NF:b≠m)(R:j<=s.size)(hs:s.size<=2000000):Calls prog 144 #[Vp (P (C b 0 G)),Vp (P (C m 0 G))] w λe T=>e=Vr (Vb (dT s 4 j [] L).1)/\∃tv,pK w b m s i D rn B pd g f (dT s 4 j [] L).2.2.1 (dT s 4 j [] L).2.1 (dT s 4 j [] L).2.2.2 tv T:=by
 obtain⟨i0,hi,T,V,W⟩:=info_parts XS;have S:s.size<=maxLen:=oM
 have a:pK w b m s i D rn B pd g f [] j L (U G 0 0) w:=⟨p,R,l,dm _ _ _ _,ak.refl _ _,NF,p.lt,l.lt⟩;clear p l;go_in;go_wp2
 go_loopg [5,6,7,8] 5 (λt c h n M wr=>∃(l:List (Bool×B8))(p:Nat)(r:Nat->Nat)(tv:V9),Z l<=4/\t=5-Z l/\M=I J (Z l)/\pK w b m s i D rn B pd g f l p r tv wr/\dT s 4 j [] L=dT s (4-Z l) p l r)
 exact⟨[],j,L,_,oS,rfl,rfl,a,rfl⟩
 case round=>
  clear a;obtain⟨l,p,r,tv,_,_,rfl,a,t⟩:=hrel;have HF:=H t;clear t;obtain⟨a0,M,rfl⟩:=aF a.tM
  by_cases hl:Z l<4
  .have yV:(Z l:Int)<4:=O;have t:dT s (4-Z l) p l r=dT s ((3-Z l)+1) p l r:=(by congr 1;omega);have n:=H (HF.trans (t.trans (by rw[dT])));obtain⟨_,x,z,u,c,q,h,Q⟩:=a.ek;have k:=a.mc.cp (Z l) hl;have o:=a.mc.fz (6+Z l);have hmw:=a.mw;have y:=a.hp;have d:=H a;clear HF a t;go_upto_region 4 with fail
   go_cut [] (λwc=>pK w b m s i D rn B pd g f l p (r9 r (Z l) (aE s p).2.1) (U a0 (Z l) M) wc)
   case first=>
    go_region
    all_goals
     go_wp2;go_meet
     case rel=>exact(d.place (Z l) (aE s p).2.1 hl).drew
   case rest=>
    have a:=hcut;clear hcut d x z u c q h Q k o
    by_cases t:(aE s p).1=2\/(aE s p).1=3
    .have k:=H (n.trans (aD t));have x:(∃o,decide ((aE s p).1=3)=o):=⟨_,rfl⟩;obtain⟨o,d⟩:=x;rcases t with t|t
     all_goals
      first
      | (have x:o=false:=(by rw[<-d,t];rfl);subst x;go_wp2_with fail;refine(an9 s p i D b _ a.ek y hs t).mono ?_)
      | (have x:o=true:=(by rw[<-d,t];rfl);subst x;go_wp2_with fail;refine(anc s p i D b _ a.ek y hs t).mono ?_)
      rintro e w1⟨rfl,x,z⟩;have u:=(kv s p y).2;have c:=a.call x z u;have Q:=c.mc.c3;have q:=c.tM;have aoZ:=c.mc.lt;rw[d]at k;have HDK:=H t;clear n x z a t d;unfold nX
      first
      |simp only[pG,qi]
      |simp only[lM]
      first
      | (go_wp2_with(at_builtin;refine ka _ rfl _ _ 77 rfl (F (X w)) 191 i0 _ 1 16 underlying77 hi T V W rfl oD _ _ _ rfl (q.alloc _) (C (F (X w1)) 0 G) 1 1 [nX Bf (hU s p)] rfl rfl (PW w1 _) (PX _ _) oM O (by have:=c.kept.size;simp;omega) ?_);intro v5 w5 d K h)
      | (go_wp2_with(at_builtin;refine ka _ rfl _ _ 77 rfl (F (X w)) 191 i0 _ 1 16 underlying77 hi T V W rfl oD _ _ _ rfl (q.alloc _) (C (F (X w1)) 0 G) 1 1 [nX Bt (hU s p)] rfl rfl (PW w1 _) (PX _ _) oM O (by have:=c.kept.size;simp;omega) ?_);intro v5 w5 d K h)
      clear h;obtain⟨_,_,rfl⟩:=aF d;obtain⟨h,v⟩:=c.append (_,hU s p) d K;have e3:=v.c3;have ef:=v.fz 3;clear d K Q q c v;go_wp2_with fail;refine(nS s _ i D 7 b _ h.ek u S).mono ?_;rintro e w7⟨rfl,K,q⟩;have Q:=(kv s (aE s p).2.2 u).2
      cases N:((aE s (aE s p).2.2).1==7) with
      |true=>have v:=eq_of_beq N;have A:bR s (aE s p).2.2 7=(aE s (aE s p).2.2).2.2:=(by unfold bR;rw[aD N]);rw[A]at q;have d:=h.call K q Q;have E:=H (k.trans (aD v));clear h K q k v A e3 ef;go_wp2;go_roundg(5-(Z l+1));exact⟨_,_,_,_,oT,oS,oS,d,E.trans (by congr 1;first|(simp;done)|(simp;omega))⟩;omega
      |false=>
       have v:¬(aE s (aE s p).2.2).1=7:=(by intro e;rw[e]at N;cases N);have A:bR s (aE s p).2.2 7=(aE s p).2.2:=(by unfold bR;rw[aB (by rw[N];decide)]);rw[A]at q;have d:=h.call K q u;have E:=H (k.trans (aB v));clear h K q k v A e3 ef;go_wp2_with fail;refine(nS s _ i D 6 b _ d.ek u S).mono ?_;rintro e K⟨rfl,v,q⟩;have A:=d.call v q (by unfold bR;split;exact Q;exact u);clear d v q;go_wp2;go_ret;refine⟨?_,_,by rw[ag E];exact A⟩;rw[ag E]
       show Vr (Vb ((aE s (aE s p).2.2).1==6))=Vr (Vb (decide ((aE s (aE s p).2.2).1=6)))
       rw[oX.2 (by simp:(((aE s (aE s p).2.2).1==6)=Bt↔decide ((aE s (aE s p).2.2).1=6)=Bt))]
    have k:=H (n.trans (aB t));clear n;go_wp2_with fail;refine(ana s p i D b _ a.ek y hs (λh=>t (.inl h)) (λh=>t (.inr h))).mono ?_;rintro e w1⟨rfl,x,z⟩;have c:=a.call x z y;clear x z a t;go_wp2;go_ret;exact⟨by rw[ag k];rfl,_,by rw[ag k];exact c⟩
  have n:=H (show dT s 4 j [] L=(Bf,p,l,r) by rw[ag HF,show 4-Z l=0 from by omega,dT]);have yV:¬(Z l:Int)<4:=O
  clear HF;go_wp2;go_ret;exact⟨by rw[ag n];rfl,_,by rw[ag n];exact a⟩
structure bW where
 bn:Nat
 neg:Bool
 pd:B8
 ts:List (Bool×B8)
 start:Nat
 place:Nat
 pl:Nat->Nat
def bW.cells(M:bW)(tv:V9):V8:=[I J M.bn,Vb M.neg,Y M.pd,tv,I J M.start,I J M.place,I J (M.pl 0),I J (M.pl 1),I J (M.pl 2),I J (M.pl 3)]
def AA(ms:List (bW×V9)):V8:=ms.flatMap λx=>x.1.cells x.2
structure gv(w:W8)(base:Nat)(mv:V9)(ms:List (bW×V9)):Prop where
 row:Ow w base 221 10 mv (Z ms) (AA ms)
 aK:∀x∈ms,Ow w base 191 1 x.2 x.1.ts.length (jm x.1.ts)
variable {n:List (bW×V9)}{d h k:Nat}{m:V9}{b e o:W8}
def gv.kept{B}(h:gv e a c n)(k:ak B e b)(j:∀x∈B,x<a\/F (X e)<=x):gv b a c n:=by
 have w:ak (B.filter (·<a)) e b:=⟨k.os,k.tape,k.output,k.size,λi d l=>k.block i d (λd=>by
  rcases j i d with g|g
  .exact l (by simp[d,g])
  omega)⟩
 exact⟨ni h.row w oS,λx g=>ni (h.aK x g) w oS⟩
inductive Hi where
 |no (pos:Nat)
 |yes (pos:Nat) (pd:B8) (ts:List (Bool×B8)) (pl:Nat->Nat)
def ik(s:B8)(pos:Nat):Hi:=
 if(aE s pos).1=2 then
  (if(aE s (aE s pos).2.2).1=5 then
   (if(dT s 4 (aE s (aE s pos).2.2).2.2 [] (λ_=>0)).1 then
    .yes (dT s 4 (aE s (aE s pos).2.2).2.2 [] (λ_=>0)).2.1 (hU s pos) (dT s 4 (aE s (aE s pos).2.2).2.2 [] (λ_=>0)).2.2.1 (dT s 4 (aE s (aE s pos).2.2).2.2 [] (λ_=>0)).2.2.2
   else .no (dT s 4 (aE s (aE s pos).2.2).2.2 [] (λ_=>0)).2.1)
  else .yes (aE s pos).2.2 (hU s pos) [] (λ_=>0))
 else .no pos
def aiL(w)(d:Nat)(c)(b a:Nat)(o):qm (Al (Al w o) (Vc #[I J d,Vb c,Y ⟨#[]⟩,U G 0 0,I J b,I J a,I J 0,I J 0,I J 0,I J 0] 221)) (F (X w)+1) d c ⟨#[]⟩ (U G 0 0) b a (λ_=>0):=by
 refine⟨oS,?_,?_,?_,?_,?_,?_,λi e=>?_,λo=>?_⟩
 all_goals first|(rw[World.cell?_alloc_at _ _ _ _ oS];rfl)|(rw[World.frozen?_alloc_at _ _ _ _ oS])|skip
 rw[World.cell?_alloc_at _ _ _ _ oS];have:i=0\/i=1\/i=2\/i=3:=O
 rcases this with rfl|rfl|rfl|rfl<;>rfl
structure RA(w:W8)(n:Nat):Prop where
 lt:n<F (X w)
 c0:Ce w (C n 0 G)=P (Y ⟨#[]⟩)
 c1:Ce w (C n 1 G)=P (U G 0 0)
 fz:∀o,w.frozen? (C n o G)=Bf
def RA.kept{B}(h:RA e a)(k:ak B e b)(w:a∉B):RA b a:=
 ⟨iz h.lt k.size,(k.cell h.lt w).trans h.c0,(k.cell h.lt w).trans h.c1,λo=>(k.frozen h.lt w).trans (h.fz o)⟩
structure nZ(w:W8)(b:Nat)(s:B8)(bn:Nat)(mv:V9)(neg:Bool)(start place:Nat)(pd:B8)(tv:V9)(pl:Nat->Nat)(pos:Nat)(wr:W8):Prop where
 ek:fX wr b s pos bn mv
 hp:pos<=s.size
 mc:qm wr (F (X w)+1) bn neg pd tv start place pl
 ra:RA wr (F (X w))
 kept:ak [b] w wr
 bw:b<F (X w)
variable {i:Bool}{g j:B8}{l:Nat->Nat}
def nZ.call{s}(w:nZ b f g h c i d a j m l k e)(n:ak [f] e o)(p:fX o f g s h c)(wr:s<=g.size):nZ b f g h c i d a j m l s o:=
 have q:=w.bw
 ⟨p,wr,w.mc.kept n oT,w.ra.kept n oT,w.kept.trans n,w.bw⟩
def nZ.same(s:nZ b d g h c i k a j m l f e)(wr:Below (F (X e)) e o):nZ b d g h c i k a j m l f o:=
 have w:=(ak.refl [] e).bC wr
 ⟨s.ek.kept w oS,s.hp,s.mc.kept w oS,s.ra.kept w oS,s.kept.bC wr,s.bw⟩
def nZ.ax(q:nZ b d g f c i h a j m l k e)(p):nZ b d g f c i h a p m l k (Sc e (C (F (X b)+1) 2 G) (Y p)):=by
 have r:=q.bw;have w:=q.mc;have wr:ak [F (X b)+1] e (Sc e (C (F (X b)+1) 2 G) (Y p)):=(ak.refl _ _).setCell oS _;refine⟨q.ek.kept wr oT,q.hp,⟨by simpa using w.lt,?_,?_,qz w.c2,?_,?_,?_,λs n=>?_,λo=>by simpa using w.fz o⟩,q.ra.kept wr oS,q.kept.setCell (.inr oS) _,q.bw⟩
 .rw[iA O];exact w.c0
 .rw[iA O];exact w.c1
 .rw[iA O];exact w.c3
 .rw[iA O];exact w.c4
 .rw[iA O];exact w.c5
 rw[iA O];exact w.cp s n
def nZ.start(e w)(h:fX b a g f d c)(s:f<=g.size):nZ b a g d c e w (aE g f).2.1 ⟨#[]⟩ (U G 0 0) (λ_=>0) f (Al (Al b (Vc #[Y ⟨#[]⟩,U G 0 0] 79)) (Vc #[I J ↑d,Vb e,Y ⟨#[]⟩,U G 0 0,I J ↑w,I J ↑(aE g f).snd.fst,I J 0,I J 0,I J 0,I J 0] 221)).drew:=by
 have k:=(((ak.refl [] b).alloc (Vc #[Y ⟨#[]⟩,U G 0 0] 79)).alloc (Vc #[I J ↑d,Vb e,Y ⟨#[]⟩,U G 0 0,I J ↑w,I J ↑(aE g f).snd.fst,I J 0,I J 0,I J 0,I J 0] 221)).drew;refine⟨h.kept k oS,s,(aiL b d e w (aE g f).2.1 _).kept ((ak.refl [] _).drew) oS,?_,k.mono oS,h.lt⟩;refine RA.kept ⟨oT,?_,?_,λo=>?_⟩ ((ak.refl [] _).drew) oS
 .rw[World.cell?_alloc_past _ _ _ oS,World.cell?_alloc_at _ _ _ _ rfl];rfl
 .rw[World.cell?_alloc_past _ _ _ oS,World.cell?_alloc_at _ _ _ _ rfl];rfl
 rw[World.frozen?_alloc_past _ _ _ oS,World.frozen?_alloc_at _ _ _ _ rfl]
def JU(h:RA b a)(n c):Ce (Sc (Sc b (C a 0 G) n) (C a 1 G) c) (C a 0 G)=P n/\Ce (Sc (Sc b (C a 0 G) n) (C a 1 G) c) (C a 1 G)=P c:=
 ⟨by rw[iA O];exact qz h.c0,qz (by rw[iA O];exact h.c1)⟩
def aiK(a M b):AA (a++[(M,b)])=AA a++M.cells b:=by simp[AA]
def YS(M:bW)(a n c):∀u∈M.cells (U a n c),u.oneCell'=true:=by intro u b;simp[bW.cells]at b;rcases b with rfl|rfl|rfl|rfl|rfl|rfl|rfl|rfl|rfl|rfl<;>rfl
def afP(b:(U (P (C d 0 G)) f a).ownBlock=G\/(U (P (C d 0 G)) f a).ownBlock≠c.ownBlock):d∉c.ownBlock.toList:=λe=>by
 have g:c.ownBlock=P d:=by simpa using e
 rcases b with b|b
 .cases b
 exact b (by rw[g];rfl)
def YQ{W t v'}(u:nZ b f g d c i h a j m l k e) (p:gv e (f+1) c n) (S:∀r,c.ownBlock=P r->r<F (X b)) (B:Ow e (F (X b)) 191 1 m (Z t) (jm t))(hW:∀r,r<F (X e)->o.heap[r]?=e.heap[r]?) (hS:F (X e)<=F (X o)) (V:o.os=e.os) (htp:o.tape=e.tape) (hou:o.output=e.output) (y:o.grownBy W c.ownBlock)(A:Ow W (f+1) 221 10 v' (Z n+1) (AA n++(bW.mk d i j t h a l).cells m)):ak (f::c.ownBlock.toList) b (Sc W (C f 5 G) v')/\fX (Sc W (C f 5 G) v') f g k d v'/\gv (Sc W (C f 5 G) v') (f+1) v' (n++[(⟨d,i,j,t,h,a,l⟩,m)])/\Ow (Sc W (C f 5 G) v') (F (X b)) 191 1 m (Z t) (jm t)/\RA (Sc W (C f 5 G) v') (F (X b))/\qm (Sc W (C f 5 G) v') (F (X b)+1) d i j m h a l/\fX W f g k d c:=by
 have EF:=u.bw;have Xg:=y.size;have D:ak c.ownBlock.toList e W:=⟨y.os.trans V,y.tape.trans htp,y.output.trans hou,O,λr R T=>(y.block r O (λw=>T (by rw[<-w];simp))).trans (hW r R)⟩;have Q:f∉c.ownBlock.toList:=λw=>by
  have:=(p.row.lt f (oU w)).1;omega
 have z:∀x,F (X b)<=x->x∉c.ownBlock.toList:=λx K w=>by
  have:=S x (oU w);omega
 have kb:ak [f] W (Sc W (C f 5 G) v'):=(ak.refl _ _).setCell oS _;have r5:=u.ek.kept D Q;have L:∀{w:Nat} {v:V9} {E:Nat} {xs:V8},f+1<=w->Ow e w 191 1 v E xs->Ow (Sc W (C f 5 G) v') w 191 1 v E xs:=by
  intro w v E xs NB K;have hd:=PJ K p.row oD;refine⟨K.1,?_⟩;rcases K.2 with T|⟨s,M,N,rfl,hb,q,wr⟩
  .exact .inl T
  have hl:=(aM.1 q).1;refine .inr ⟨s,M,N,rfl,hb,?_,wr⟩;rw[cx _ _ _ _ oT,D.block s hl (afP hd),q]
 refine⟨?_,?_,⟨?_,λx K=>?_⟩,L O B,(u.ra.kept D (z _ L9)).kept kb oT,(u.mc.kept D (z _ O)).kept kb oT,r5⟩
 .have s:ak (f::c.ownBlock.toList) b e:=u.kept.mono oS;exact(s.trans (D.mono (by simp;intro r R;exact .inl (.inr R)))).setCell oS _
 .obtain⟨q,s,M,N,c3,c4,c5,fz⟩:=r5;exact⟨by simpa using q,by rw[iA O];exact s,by rw[iA O];exact M,by rw[iA O];exact N,by rw[iA O];exact c3,by rw[iA O];exact c4,qz c5,λwr=>by simpa using fz wr⟩
 .rw[aiK,br];exact fh A oS _
 rcases aS.1 K with K|K
 .exact L L9 (p.aK x K)
 simp at K;subst K;exact aX (L O B) O
def py(w n a b):ak [n] w (Sc (Sc w (C n 0 G) a) (C n 1 G) b):=((ak.refl _ _).setCell oS _).setCell oS _
def AF{w m}(n:Ow b a w f c h m)(k:ak [d] b e)(p:∀g,c.ownBlock=P g->g≠d):Ow e a w f c h m:=by
 refine⟨n.1,?_⟩;rcases n.2 with q|⟨g,l,i,rfl,o,v,j⟩
 .exact .inl q
 refine .inr ⟨g,l,i,rfl,o,?_,j⟩;rw[k.block g (aM.1 v).1 (by simp;exact p g rfl)];exact v
def Pc(h:gv b a c n)(k:ak [d] b e)(f:∀g,c.ownBlock=P g->g≠d)(i:∀x∈n,∀g,x.2.ownBlock=P g->g≠d):gv e a c n:=
 ⟨AF h.row k f,λx g=>AF (h.aK x g) k (i x g)⟩
def ajY(w b s a f k i)(d:Nat)(h:fX w b s a f k)(c:a<=s.size)(y:s.size<=2000000)(g:¬(aE s a).1=2):Calls prog 98 #[Vp (P (C b 0 G)),Vb i,I J d] w λe o=>e=Vr (Vt #[Va #[Y ⟨#[]⟩,U G 0 0],Vb Bf])/\ak [b] w o/\fX o b s a f k:=by
 have o:s.size<=maxLen:=oM
 have m:((aE s a).1==2)=false:=by simp[g]
 have n:bR s a 2=a:=by unfold bR;rw[aB (by rw[m];decide)]
 have p:=H n;have j:=nZ.start i d h c;obtain⟨_,l,q,r,t,u,v,x⟩:=h;clear g n;go_in;go_wp2
 go_region
 clear l q r t u v x;go_wp2_with fail;refine(AU s a f k b _ j.ek c y).mono ?_;rintro e x⟨rfl,h⟩;have g:=j.same h;have v:=g.mc.c2;have u:=g.mc.fz 2;have n:=g.ax (hU s a);have l:=H n;clear j h g n;go_wp2_with fail;refine(nS s a f k 2 b _ l.ek c o).mono ?_;rintro e t⟨rfl,g,h⟩;rw[ag p]at h;have j:=l.call g h c;have n:=j.ra;obtain⟨_,_,_,_⟩:=n;clear l g h v u;go_wp2_with fail;obtain⟨u,v⟩:=JU j.ra (Y ⟨#[]⟩) (U G 0 0);refine bN (v:=Vt #[Va #[Y ⟨#[]⟩,U G 0 0],Vb Bf]) (by simp[results,results98,go_sem,u,v]) rfl ⟨rfl,?_,?_⟩
 .exact(j.kept.setCell (.inr L9) _).setCell (.inr L9) _
 exact j.ek.kept (((ak.refl [F (X w)] _).setCell oS _).setCell oS _) oT
def XP:(prog.info? 221).map (λi=>(i.zero,i.size,i.bytes))=P (P (Va #[I J 0,Vb Bf,Y ⟨#[]⟩,U G 0 0,I J 0,I J 0,I J 0,I J 0,I J 0,I J 0]),10,104):=oK
def ajX(w b s a d K n)(c:Nat)(i)(h:fX w b s a d K)(o:gv w (b+1) K i)(pk:Z i<=1000)(f:a<=s.size)(hs:s.size<=2000000)(E:(aE s a).1=2)(u:¬(aE s (aE s a).2.2).1=5):Calls prog 98 #[Vp (P (C b 0 G)),Vb n,I J c] w λe k=>∃T v,e=Vr (Vt #[Va #[Y (hU s a),T],Vb Bt])/\ak (b::K.ownBlock.toList) w k/\fX k b s (aE s a).2.2 d v/\gv k (b+1) v (i++[(⟨d,n,hU s a,[],c,(aE s a).2.1,λ_=>0⟩,T)])/\Ow k (F (X w)) 191 1 T 0 (jm [])/\(∀k,v.ownBlock=P k->K.ownBlock=P k\/F (X w)<=k):=by
 obtain⟨i0,hi,T,V,W⟩:=info_parts XP;have D:s.size<=maxLen:=oM
 have S:((aE s a).1==2)=true:=by rw[E];rfl
 have B:((aE s (aE s a).2.2).1==5)=false:=by simp[u]
 have A:bR s a 2=(aE s a).2.2:=by unfold bR;rw[aD S]
 have g:bR s (aE s a).2.2 5=(aE s a).2.2:=by unfold bR;rw[aB (by rw[B];decide)]
 have HT:=H A;have L:=H g;have v:=(kv s a f).2;have y:=nZ.start n c h f;obtain⟨N,m,rfl⟩:=aF o.row;have M:=H (λ(x:bW×V9)(r:x∈i) k (e:x.2.ownBlock=P k)=>((o.aK x r).lt k e).2);have z:=H (λk (e:(U N (Z i) m).ownBlock=P k)=>(o.row.lt k e).2);obtain⟨_,q,p,t,j,l,R,Q⟩:=h;clear E A g u;go_in;go_wp2
 go_region
 clear q p t j l R Q;go_wp2_with fail;refine(AU s a d _ b _ y.ek f hs).mono ?_;rintro e w2⟨rfl,u⟩;have g:=y.same u;have R:=g.mc.c2;have l:=g.mc.fz 2;have A:=g.ax (hU s a);have q:=H A;clear y u g A;go_wp2_with fail;refine(nS s a d _ 2 b _ q.ek f D).mono ?_;rintro e w4⟨rfl,g,u⟩;rw[ag HT]at u;have A:=q.call g u v;clear q g u R l;go_wp2_with fail;refine(nS s (aE s a).2.2 d _ 5 b _ A.ek v D).mono ?_;rintro e y⟨rfl,q,g⟩;rw[ag L]at g;have u:=A.call q g v;clear A q g;have g:gv y (b+1) (U N (Z i) m) i:=o.kept u.kept oS;obtain⟨x0,x1,x2,x3,x4,x5,x6,A,xf⟩:=u.mc;have y0:=A 0 O;have y1:=A 1 O;have y2:=A 2 O;have y3:=A 3 O;have r5:=u.ek.c5;have q:=g.row;have p:Ow y (F (X w)) 191 1 (U G 0 0) ([]:List (Bool×B8)).length (jm []):=dm _ _ _ _;have t:=H u;have h:=H g;have j:=H p;have l:=H q;have h7l:=u.mc.lt;have mN:=u.ek.lt;clear q g p A;go_wp2
 go_region_law(refine step_append_lies _ rfl (.tmp 41) (.tmp 43) 98 rfl (b+1) 221 i0 (Va #[I J 0,Vb Bf,Y ⟨#[]⟩,U G 0 0,I J 0,I J 0,I J 0,I J 0,I J 0,I J 0]) 10 104 underlying98 hi T V W rfl oD (U N (Z i) m) (Z i) (AA i) (by simp[Act.eval]) (l.alloc _) (C (F (X y)) 0 G) 1 1 [I J ↑d,Vb n,Y (hU s a),U G 0 0,I J ↑c,I J ↑(aE s a).snd.fst,I J 0,I J 0,I J 0,I J 0] (by simp[Act.eval]) rfl (World.news_of_block (aG y _)) (YS ⟨d,n,hU s a,[],c,(aE s a).2.1,λ_=>0⟩ G 0 0) oD oM O (by have:=t.ek.lt;simp;omega) _ rfl ?_;intro g A w5 q R p rP;obtain⟨e1,e2,e3,_,e5,Q,e7⟩:=YQ (v':=U (P (C g 0 G)) (Z i+1) A) t h z j (λk E=>((ak.refl [] y).alloc _).drew.block k E oS) ((ak.refl [] y).alloc _).drew.size rfl rfl rfl R q;have z5:=e7.c5;have zf:=e7.fz 5)
 all_goals
  obtain⟨PY,PZ,P3,P4⟩:=e5;have m2:=Q.c2;have m3:=Q.c3;have ml:=Q.lt;clear l t h j x0 x1 x2 x3 x4 x5 x6 xf y0 y1 y2 y3 r5 z5 zf u;go_wp2_with fail;obtain⟨h,t⟩:=JU (RA.mk PY PZ P3 P4) (Y (hU s a)) (U G 0 0);have u:=py (Sc w5 (C b 5 G) (U (P (C g 0 G)) (Z i+1) A)) (F (X w)) (Y (hU s a)) (U G 0 0);refine bN (v:=Vt #[Va #[Y (hU s a),U G 0 0],Vb Bt]) (by simp[results,results98,go_sem,h,t]) rfl ⟨_,_,rfl,?_,e2.kept u oT,?_,?_,λk e=>?_⟩
  .exact(e1.setCell (.inr L9) _).setCell (.inr L9) _
  .refine Pc e3 u (λk e=>?_) (λx r k e=>?_)
   .rcases p with j|j
    .have:=ag z g j;injection e with e;simp only at e;omega
    injection e with e;simp only at e;simp at j;omega
   rcases aS.1 r with r|r
   .have:=ag M x r k e;omega
   simp at r;subst r;cases e
  .exact dm _ _ _ _
  injection e with e
  simp only at e;subst e;rcases p with j|j
  .exact .inl j
  refine .inr ?_;simp at j;omega
def ajW(w b s a d E k)(c:Nat)(Q)(h:fX w b s a d E)(B:gv w (b+1) E Q)(f:a<=s.size)(M:s.size<=2000000)(K:(aE s a).1=2)(j:(aE s (aE s a).2.2).1=5)(o:(dT s 4 (aE s (aE s a).2.2).2.2 [] (λ_=>0)).1=Bf):Calls prog 98 #[Vp (P (C b 0 G)),Vb k,I J c] w λe r=>e=Vr (Vt #[Va #[Y ⟨#[]⟩,U G 0 0],Vb Bf])/\ak [b] w r/\fX r b s (dT s 4 (aE s (aE s a).2.2).2.2 [] (λ_=>0)).2.1 d E:=by
 have r:s.size<=maxLen:=oM
 have A:((aE s a).1==2)=true:=by rw[K];rfl
 have p:((aE s (aE s a).2.2).1==5)=true:=by rw[j];rfl
 have z:bR s a 2=(aE s a).2.2:=by unfold bR;rw[aD A]
 have i:bR s (aE s a).2.2 5=(aE s (aE s a).2.2).2.2:=by unfold bR;rw[aD p]
 have R:=H z;have v:=H i;have m:=(kv s a f).2;have q:=(kv s (aE s a).2.2 m).2;have t:=nZ.start k c h f;obtain⟨S,n,rfl⟩:=aF B.row;obtain⟨_,L,y,l,N,u,D,x⟩:=h;clear K z i j;go_in;go_wp2
 go_region
 clear L y l N u D x;go_wp2_with fail;refine(AU s a d _ b _ t.ek f M).mono ?_;rintro e w2⟨rfl,j⟩;have i:=t.same j;have D:=i.mc.c2;have u:=i.mc.fz 2;have K:=i.ax (hU s a);have h:=H K;clear t j i K;go_wp2_with fail;refine(nS s a d _ 2 b _ h.ek f r).mono ?_;rintro e w4⟨rfl,i,j⟩;rw[ag R]at j;have t:=h.call i j m;clear h i j D u;go_wp2_with fail;refine(nS s (aE s a).2.2 d _ 5 b _ t.ek m r).mono ?_;rintro e K⟨rfl,h,i⟩;rw[ag v]at i;have j:=t.call h i q;clear t h i;have z:b≠(F (X w))+1:=by have:=j.bw;omega
 go_wp2_with fail;refine(aaT K b (F (X w)+1) s _ d _ d k _ c (aE s a).2.1 _ j.ek j.mc z q M).mono ?_;rintro e L⟨rfl,_,i⟩;generalize y:dT s 4 (aE s (aE s a).2.2).2.2 [] (λ_=>0)=PP at*;obtain⟨T,V,t,W⟩:=PP;simp only at i;obtain⟨l,h,rfl⟩:=aF i.tM;have N:=j.mc.lt;have u:nZ w b s d (U S (Z Q) n) k c (aE s a).2.1 (hU s a) (U l (Z t) h) W V L:=by refine⟨i.ek,i.hp,i.mc,j.ra.kept i.kept (by simp;have:=j.bw;omega),?_,j.bw⟩;have D:ak [b,F (X w)+1] w K:=j.kept.mono oS;exact(D.trans i.kept).mono oS
 have D:Ow L (F (X w)) 191 1 (U l (Z t) h) (Z t) (jm t):=aX i.tM O;have x:=H (λg (e:(U l (Z t) h).ownBlock=P g)=>(i.tM.lt g e).1);clear i j;have j:=o;subst j;obtain⟨_,_,_,_⟩:=u.ra;clear D x;go_wp2_with fail;obtain⟨x,D⟩:=JU u.ra (Y ⟨#[]⟩) (U G 0 0);refine bN (v:=Vt #[Va #[Y ⟨#[]⟩,U G 0 0],Vb Bf]) (by simp[results,results98,go_sem,x,D]) rfl ⟨rfl,?_,?_⟩
 .exact(u.kept.setCell (.inr L9) _).setCell (.inr L9) _
 rw[y];exact u.ek.kept (py L (F (X w)) (Y ⟨#[]⟩) (U G 0 0)) oT
def ajZ(w b s a d mv i)(c:Nat)(m)(h:fX w b s a d mv)(r:gv w (b+1) mv m)(pk:Z m<=1000)(l:a<=s.size)(hs:s.size<=2000000)(W:(aE s a).1=2)(n:(aE s (aE s a).2.2).1=5)(N:(dT s 4 (aE s (aE s a).2.2).2.2 [] (λ_=>0)).1=Bt):Calls prog 98 #[Vp (P (C b 0 G)),Vb i,I J c] w λe k=>∃tv B,e=Vr (Vt #[Va #[Y (hU s a),tv],Vb Bt])/\ak (b::mv.ownBlock.toList) w k/\fX k b s (dT s 4 (aE s (aE s a).2.2).2.2 [] (λ_=>0)).2.1 d B/\gv k (b+1) B (m++[(⟨d,i,hU s a,(dT s 4 (aE s (aE s a).2.2).2.2 [] (λ_=>0)).2.2.1,c,(aE s a).2.1,(dT s 4 (aE s (aE s a).2.2).2.2 [] (λ_=>0)).2.2.2⟩,tv)])/\Ow k (F (X w)) 191 1 tv (dT s 4 (aE s (aE s a).2.2).2.2 [] (λ_=>0)).2.2.1.length (jm (dT s 4 (aE s (aE s a).2.2).2.2 [] (λ_=>0)).2.2.1) /\(∀k,B.ownBlock=P k->mv.ownBlock=P k\/F (X w)<=k):=by
 obtain⟨i0,hi,gB,dx,cB⟩:=info_parts XP;have S:s.size<=maxLen:=oM
 have hk2:((aE s a).1==2)=true:=by rw[W];rfl
 have Q:((aE s (aE s a).2.2).1==5)=true:=by rw[n];rfl
 have D:bR s a 2=(aE s a).2.2:=by unfold bR;rw[aD hk2]
 have p:bR s (aE s a).2.2 5=(aE s (aE s a).2.2).2.2:=by unfold bR;rw[aD Q]
 have HT:=H D;have Lh:=H p;have B:=(kv s a l).2;have R:=(kv s (aE s a).2.2 B).2;have u:=nZ.start i c h l;obtain⟨V,j,rfl⟩:=aF r.row;have HTW:=H (λ(x:bW×V9)(v:x∈m) k (e:x.2.ownBlock=P k)=>((r.aK x v).lt k e).2);have K:=H (λk (e:(U V (Z m) j).ownBlock=P k)=>(r.row.lt k e).2);obtain⟨_,q,E,f,A,M,L,g⟩:=h;clear W D p n;go_in;go_wp2
 go_region
 clear q E f A M L g;go_wp2_with fail;refine(AU s a d _ b _ u.ek l hs).mono ?_;rintro e w2⟨rfl,n⟩;have p:=u.same n;have L:=p.mc.c2;have M:=p.mc.fz 2;have h:=p.ax (hU s a);have D:=H h;clear u n p h;go_wp2_with fail;refine(nS s a d _ 2 b _ D.ek l S).mono ?_;rintro e w4⟨rfl,p,n⟩;rw[ag HT]at n;have u:=D.call p n B;clear D p n L M;go_wp2_with fail;refine(nS s (aE s a).2.2 d _ 5 b _ u.ek B S).mono ?_;rintro e w6⟨rfl,D,p⟩;rw[ag Lh]at p;have n:=u.call D p R;clear u D p;have hbn:b≠(F (X w))+1:=by have:=n.bw;omega
 go_wp2_with fail;refine(aaT w6 b (F (X w)+1) s _ d _ d i _ c (aE s a).2.1 _ n.ek n.mc hbn R hs).mono ?_;rintro e D⟨rfl,tv,p⟩;generalize u:dT s 4 (aE s (aE s a).2.2).2.2 [] (λ_=>0)=PP at*;obtain⟨ok,p3,q,E⟩:=PP;simp only at p;obtain⟨f,h,rfl⟩:=aF p.tM;have apk:=n.mc.lt;have A:nZ w b s d (U V (Z m) j) i c (aE s a).2.1 (hU s a) (U f (Z q) h) E p3 D:=by refine⟨p.ek,p.hp,p.mc,n.ra.kept p.kept (by simp;have:=n.bw;omega),?_,n.bw⟩;have M:ak [b,F (X w)+1] w w6:=n.kept.mono oS;exact(M.trans p.kept).mono oS
 have M:Ow D (F (X w)) 191 1 (U f (Z q) h) (Z q) (jm q):=aX p.tM O;have L:=H (λg (e:(U f (Z q) h).ownBlock=P g)=>(p.tM.lt g e).1);clear p n;have n:=N;subst n;have z:=H u;clear u;have p:gv D (b+1) (U V (Z m) j) m:=r.kept A.kept oS;obtain⟨x0,x1,x2,x3,x4,x5,x6,T,xf⟩:=A.mc;have y0:=T 0 O;have y1:=T 1 O;have y2:=T 2 O;have y3:=T 3 O;have r5:=A.ek.c5;have u:=p.row;have y:=H A;have n:=H p;have t:=H M;have o:=H u;have h8l:=A.mc.lt;have mN:=A.ek.lt;clear u p T M;go_wp2
 go_region_law(refine step_append_lies _ rfl (.tmp 41) (.tmp 43) 98 rfl (b+1) 221 i0 (Va #[I J 0,Vb Bf,Y ⟨#[]⟩,U G 0 0,I J 0,I J 0,I J 0,I J 0,I J 0,I J 0]) 10 104 underlying98 hi gB dx cB rfl oD (U V (Z m) j) (Z m) (AA m) (by simp[Act.eval]) (o.alloc _) (C (F (X D)) 0 G) 1 1 [I J ↑d,Vb i,Y (hU s a),U f (Z q) h,I J ↑c,I J ↑(aE s a).snd.fst,I J ↑(E 0),I J ↑(E 1),I J ↑(E 2),I J ↑(E 3)] (by simp[Act.eval]) rfl (World.news_of_block (aG D _)) (YS ⟨d,i,hU s a,q,c,(aE s a).2.1,E⟩ f (Z q) h) oD oM O (by have:=y.ek.lt;simp;omega) _ rfl ?_;intro g M w5 u Cg p rP;obtain⟨e1,e2,e3,e4,e5,T,e7⟩:=YQ (v':=U (P (C g 0 G)) (Z m+1) M) y n K t (λk W=>((ak.refl [] D).alloc _).drew.block k W oS) ((ak.refl [] D).alloc _).drew.size rfl rfl rfl Cg u;have z5:=e7.c5;have zf:=e7.fz 5)
 all_goals
  obtain⟨PY,PZ,P3,P4⟩:=e5;have m2:=T.c2;have m3:=T.c3;have ml:=T.lt;clear o y n t x0 x1 x2 x3 x4 x5 x6 xf y0 y1 y2 y3 r5 z5 zf A;go_wp2_with fail;obtain⟨n,y⟩:=JU (RA.mk PY PZ P3 P4) (Y (hU s a)) (U f (Z q) h);have A:=py (Sc w5 (C b 5 G) (U (P (C g 0 G)) (Z m+1) M)) (F (X w)) (Y (hU s a)) (U f (Z q) h);refine bN (v:=Vt #[Va #[Y (hU s a),U f (Z q) h],Vb Bt]) (by simp[results,results98,go_sem,n,y]) rfl ⟨_,_,rfl,?_,by rw[ag z];exact e2.kept A oT,?_,?_,λk e=>?_⟩
  .exact(e1.setCell (.inr L9) _).setCell (.inr L9) _
  .rw[ag z];refine Pc e3 A (λk e=>?_) (λx v k e=>?_)
   .rcases p with t|t
    .have:=ag K g t;injection e with e;simp only at e;omega
    injection e with e;simp only at e;simp at t;omega
   rcases aS.1 v with v|v
   .have:=ag HTW x v k e;omega
   simp at v;subst v;have:=ag L k e;omega
  .rw[ag z];exact AF e4 A (λk e=>by have:=ag L k e;omega)
  injection e with e
  simp only at e;subst e;rcases p with t|t
  .exact .inl t
  refine .inr ?_;simp at t;omega
def abD(w:W8)(b:Nat)(s:B8)(bn:Nat)(mv:V9)(neg:Bool)(start place:Nat)(ms:List (bW×V9))(r:Hi)(e:Ending)(w':W8):Prop:=
 match r with
 | .no p=>e=Vr (Vt #[Va #[Y ⟨#[]⟩,U G 0 0],Vb Bf])/\ak [b] w w'/\fX w' b s p bn mv
 | .yes p pd ts pl=>∃tv qJ,e=Vr (Vt #[Va #[Y pd,tv],Vb Bt])/\ak (b::mv.ownBlock.toList) w w'/\fX w' b s p bn qJ/\gv w' (b+1) qJ (ms++[(⟨bn,neg,pd,ts,start,place,pl⟩,tv)])/\Ow w' (F (X w)) 191 1 tv (Z ts) (jm ts)/\(∀k,qJ.ownBlock=P k->mv.ownBlock=P k\/F (X w)<=k)
def PM(w b s a i l g)(c:Nat)(m)(h:fX w b s a i l)(k:gv w (b+1) l m)(n:Z m<=1000)(d:a<=s.size)(p:s.size<=2000000):Calls prog 98 #[Vp (P (C b 0 G)),Vb g,I J c] w (abD w b s i l g c (aE s a).2.1 m (ik s a)):=by
 by_cases j:(aE s a).1=2
 .by_cases f:(aE s (aE s a).2.2).1=5
  .cases o:(dT s 4 (aE s (aE s a).2.2).2.2 [] (λ_=>0)).1 with
   |false=>have e:ik s a=.no (dT s 4 (aE s (aE s a).2.2).2.2 [] (λ_=>0)).2.1:=(by unfold ik;rw[aD j,aD f,aB (by rw[o];decide)]);rw[e];exact ajW w b s a i l g c m h k d p j f o
   |true=>have e:ik s a=.yes (dT s 4 (aE s (aE s a).2.2).2.2 [] (λ_=>0)).2.1 (hU s a) (dT s 4 (aE s (aE s a).2.2).2.2 [] (λ_=>0)).2.2.1 (dT s 4 (aE s (aE s a).2.2).2.2 [] (λ_=>0)).2.2.2:=(by unfold ik;rw[aD j,aD f,aD o]);rw[e];exact ajZ w b s a i l g c m h k n d p j f o
  have e:ik s a=.yes (aE s a).2.2 (hU s a) [] (λ_=>0):=by unfold ik;rw[aD j,aB f]
  rw[e];exact ajX w b s a i l g c m h k n d p j f
 have e:ik s a=.no a:=by unfold ik;rw[aB j]
 rw[e];exact ajY w b s a i l g c h d p j
variable {b:Array V9}{c:Nat}{e:Nat×Nat}{f:V9}{a g:W8}
def Qq{l j n o k}(h:Ow a c l d f n o)(m:a.heap[k]?=P (Vc b j e))(i:l≠j):∀g,f.ownBlock=P g->g≠k:=by
 intro g v w;subst w;rcases h.2 with⟨rfl,_⟩|⟨_,_,_,rfl,_,w,_⟩
 .cases v
 injection v with v
 simp only at v;subst v;rw[m]at w;injection w with w
 injection w with _ w _
 exact i w.symm
def aiM{j w}(h:gv a c f j)(i:a.heap[d]?=P (Vc b w e))(l:221≠w)(m:191≠w)(k:ak [d] a g):gv g c f j:=
 Pc h k (Qq h.row i l) (λx n=>Qq (h.aK x n) i m)
def ace(w:W8)(b:Nat)(s:B8)(bn:Nat)(mv:V9)(neg:Bool)(start place:Nat)(ms:List (bW×V9))(r:Hi)(e:Ending)(w':W8):Prop:=
 match r with
 | .no p=>e=Vr (Vt #[Va #[Vb neg,Y ⟨#[]⟩,U G 0 0],Vb Bf])/\ak [b] w w'/\fX w' b s p bn mv
 | .yes p pd ts pl=>∃tv qJ,e=Vr (Vt #[Va #[Vb neg,Y pd,tv],Vb Bt])/\ak (b::mv.ownBlock.toList) w w'/\fX w' b s p bn qJ/\gv w' (b+1) qJ (ms++[(⟨bn,neg,pd,ts,start,place,pl⟩,tv)])/\Ow w' (F (X w)) 191 1 tv (Z ts) (jm ts)/\(∀k,qJ.ownBlock=P k->mv.ownBlock=P k\/F (X w)<=k)
def aj{t}(h:a.heap[c]?=P (Vc b t))(j):Ce a (C c j G)=b[j]?/\a.frozen? (C c j G)=false:=by unfold World.cell? World.frozen?;simp[h]
def CF(a n b c d):ak [n] a (Sc (Sc (Sc a (C n 0 G) b) (C n 1 G) c) (C n 2 G) d):=
 (((ak.refl [n] a).setCell oS _).setCell oS _).setCell oS _
def ak.zm{B c}(h:ak B a g)(k:ak [F (X a)] g c):ak B a c:=
 ⟨k.os.trans h.os,k.tape.trans h.tape,k.output.trans h.output,bf h.size k.size,λi w d=>(k.block i (iz w h.size) oT).trans (h.block i w d)⟩
def akh(w b s a m t K)(h:fX w b s a m t)(B:gv w (b+1) t K)(pk:Z K<=1000)(j:a<=s.size)(hs:s.size<=2000000):Calls prog 175 #[Vp (P ⟨b,0,G⟩)] w (ace w b s m t ((aE s a).1==4) (aE s a).2.1 (aE s (bR s a 4)).2.1 K (ik s (bR s a 4))):=by
 have pN:s.size<=maxLen:=oM
 have N:=h.kept ((ak.refl [] w).alloc (Vc #[Vb Bf,Y ⟨#[]⟩,U G 0 0] 183)) oS;have c:=B.kept ((ak.refl [] w).alloc (Vc #[Vb Bf,Y ⟨#[]⟩,U G 0 0] 183)) oS;have hp1:bR s a 4<=s.size:=by unfold bR;split;exact(kv s a j).2;exact j
 have Q:=H (λk (e:t.ownBlock=P k)=>(B.row.lt k e).2);obtain⟨_,y,p,g,o,d,T,V⟩:=h;have h:(Al w (Vc #[Vb Bf,Y ⟨#[]⟩,U G 0 0] 183)).heap[F (X w)]?=P (Vc #[Vb Bf,Y ⟨#[]⟩,U G 0 0] 183):=aG w _;have A:=H h;clear h;go_in;go_wp2_with fail;refine(nS s a m t 4 b _ N j pN).mono ?_;rintro e w1⟨rfl,f,n⟩;have i:=c.kept f oS;clear y p g o d T V N c;go_wp2_with fail;refine(PM w1 b s (bR s a 4) m t _ _ K n i pk hp1 hs).mono ?_;intro e N c
 cases y:ik s (bR s a 4) with
 |no p=>
  rw[y]at c;obtain⟨rfl,g,o⟩:=c;have d:=f.trans g;have h:=(d.block (F (X w)) oS oT).trans A;obtain⟨T,f0⟩:=aj h 0;obtain⟨V,f1⟩:=aj h 1;obtain⟨W,f2⟩:=aj h 2;have Cu:F (X w)<F (X N):=by have:=d.size;simp at this;omega
  have R:=H y;clear y f n i g;go_wp2_with fail;obtain⟨u,v,x⟩:=zl T V W (Vb ((aE s a).1==4)) (Y ⟨#[]⟩) (U G 0 0);have u:=j4 u;have v:=j4 v;have x:=j4 x;have r:=(CF N (F (X w)) (Vb ((aE s a).1==4)) (Y ⟨#[]⟩) (U G 0 0)).alloc (Vc #[Y ⟨#[]⟩,U G 0 0] 79);refine bN (v:=Vt #[Va #[Vb ((aE s a).1==4),Y ⟨#[]⟩,U G 0 0],Vb Bf]) (by simp[results,results175,go_sem,u,v,x]) rfl ?_;rw[ag R];exact⟨rfl,(((ak.refl [b] w).alloc _).trans d).zm r,o.kept r oT⟩
 |yes p L M pl=>
  rw[y]at c;obtain⟨_,_,rfl,g,o,vG,q,E⟩:=c;obtain⟨l,c,rfl⟩:=aF q;have d:=(f.mono (C:=b::t.ownBlock.toList) oS).trans g
  have h:=(d.block (F (X w)) oS (by
   intro D;rcases bS.1 D with D|D
   .omega
   have:=ag Q (F (X w)) (oU D);omega)).trans A
  obtain⟨T,f0⟩:=aj h 0;obtain⟨V,f1⟩:=aj h 1;obtain⟨W,f2⟩:=aj h 2;have Cu:F (X w)<F (X N):=by have:=d.size;simp at this;omega
  have D:F (X w)<=F (X w1):=by have:=f.size;simp at this;omega
  have R:=H y;have z:=H h;have S:=H E;clear y f n i g h E;go_wp2_with fail;obtain⟨u,v,x⟩:=zl T V W (Vb ((aE s a).1==4)) (Y L) (U l (Z M) c);have u:=j4 u;have v:=j4 v;have x:=j4 x;have r:=(CF N (F (X w)) (Vb ((aE s a).1==4)) (Y L) (U l (Z M) c)).alloc (Vc #[Y L,U l (Z M) c] 79);refine bN (v:=Vt #[Va #[Vb ((aE s a).1==4),Y L,U l (Z M) c],Vb Bt]) (by simp[results,results175,go_sem,u,v,x]) rfl ?_;rw[ag R];exact⟨_,_,rfl,(((ak.refl _ w).alloc _).trans d).zm r,o.kept r oT,aiM vG z oD oD r,aX (AF q r (Qq q z oD)) D,λk e=>by rcases ag S k e with E|E;exact .inl E;exact .inr (bf D E)⟩
structure dd where
 neg:Bool
 pd:B8
 ts:List (Bool×B8)
def dd.cells(L:dd)(tv:V9):V8:=[Vb L.neg,Y L.pd,tv]
def FH(ls:List (dd×V9)):V8:=ls.flatMap λx=>x.1.cells x.2
def akd(l A a):FH (l++[(A,a)])=FH l++A.cells a:=by simp[FH]
structure iR(w:W8)(base:Nat)(bv:V9)(ls:List (dd×V9)):Prop where
 row:Ow w base 183 3 bv (Z ls) (FH ls)
 aK:∀x∈ls,Ow w base 191 1 x.2 x.1.ts.length (jm x.1.ts)
def qM(s:B8)(p:Nat)(pd:B8)(ts:List (Bool×B8)):dd:=⟨(aE s p).1==4,pd,ts⟩
def uM(s:B8)(bn p:Nat)(pd:B8)(ts:List (Bool×B8))(pl:Nat->Nat):bW:=⟨bn,(aE s p).1==4,pd,ts,(aE s p).2.1,(aE s (bR s p 4)).2.1,pl⟩
def jR(s:B8)(bn:Nat):Nat->Nat->List dd->List bW->Bool×Nat×List dd×List bW
 | 0,p,l,ms=>(Bf,p,l,ms)
 |f+1,p,l,ms=>
  match ik s (bR s p 4) with
  | .no q=>(Bf,q,l,ms)
  | .yes q pd ts pl=>
   if(aE s q).1=7 then jR s bn f (aE s q).2.2 (l++[qM s p pd ts]) (ms++[uM s bn p pd ts pl])
   else(decide ((aE s q).1=8),bR s q 8,l++[qM s p pd ts],ms++[uM s bn p pd ts pl])
structure iu where
 pd:B8
 ts:List (Bool×B8)
 body:List dd
def pR(s:B8)(bn p:Nat)(pd:B8)(ts:List (Bool×B8))(pl:Nat->Nat):bW:=⟨bn,Bf,pd,ts,(aE s p).2.1,(aE s p).2.1,pl⟩
def iC(s:B8)(bn p:Nat)(ms:List bW):Bool×Nat×iu×List bW:=
 match ik s p with
 | .no q=>(Bf,q,⟨⟨#[]⟩,[],[]⟩,ms)
 | .yes q pd ts pl=>
  if(aE s q).1=8 then(Bt,(aE s q).2.2,⟨pd,ts,[]⟩,ms++[pR s bn p pd ts pl])
  else if(aE s q).1=9 then
   ((jR s bn 3 (aE s q).2.2 [] (ms++[pR s bn p pd ts pl])).1,(jR s bn 3 (aE s q).2.2 [] (ms++[pR s bn p pd ts pl])).2.1,⟨pd,ts,(jR s bn 3 (aE s q).2.2 [] (ms++[pR s bn p pd ts pl])).2.2.1⟩,(jR s bn 3 (aE s q).2.2 [] (ms++[pR s bn p pd ts pl])).2.2.2)
  else(Bf,q,⟨pd,ts,[]⟩,ms++[pR s bn p pd ts pl])
def mA(s:B8):Nat->Nat->List iu->List bW->Bool×Nat×List iu×List bW
 | 0,p,rs,ms=>(Bf,p,rs,ms)
 |f+1,p,rs,ms=>
  if(aE s p).1=0 then(Bt,p,rs,ms)
  else if (Z rs)=30 then(Bf,p,rs,ms)
  else if(iC s (Z rs) p ms).1 then mA s f (iC s (Z rs) p ms).2.1 (rs++[(iC s (Z rs) p ms).2.2.1]) (iC s (Z rs) p ms).2.2.2
  else(Bf,(iC s (Z rs) p ms).2.1,rs,(iC s (Z rs) p ms).2.2.2)
variable {k:V8}{b e f o:Nat}{c l p:V9}{d i:W8}
def gC{v}(h:Ow a e v b c f k)(m:∀g,c.ownBlock=P g->d.heap[g]?=a.heap[g]?):Ow d e v b c f k:=by
 refine⟨h.1,?_⟩;rcases h.2 with o|⟨g,w,l,rfl,i,j,n⟩
 .exact .inl o
 exact .inr ⟨g,w,l,rfl,i,(m g rfl).trans j,n⟩
def er(w:W8)(e:TypeId)(x:Nat):Prop:=∀c fr,w.heap[x]?≠P (Vc c e fr)
def gl{w d i e f v n l}(h:Ow w d i f v n l)(g:i≠e):∀x∈v.ownBlock.toList,er w e x:=by
 intro x k c m j;have b:v.ownBlock=P x:=by simpa using k
 rcases h.2 with⟨rfl,_⟩|⟨_,_,_,rfl,_,a,_⟩
 .cases b
 injection b with b
 simp only at b;subst b;rw[j]at a;injection a with a
 injection a with _ a _
 exact g a.symm
variable {n:List Nat}
def j3{w}(h:Ow a e w b c f k)(m:ak n a d)(o:∀x∈n,x<e\/er a w x):Ow d e w b c f k:=by
 refine⟨h.1,?_⟩;rcases h.2 with q|⟨g,B,v,rfl,i,x,l⟩
 .exact .inl q
 refine .inr ⟨g,B,v,rfl,i,?_,l⟩
 rw[m.block g (aM.1 x).1 (λp=>by
  rcases o g p with j|j
  .omega
  exact j _ _ x)]
 exact x
def ak.step{b}(h:ak n a d)(k:ak b d i)(f:∀x∈b,x∈n\/F (X a)<=x):ak n a i:=
 ⟨k.os.trans h.os,k.tape.trans h.tape,k.output.trans h.output,bf h.size k.size,λw c B=>(k.block w (iz c h.size) (λg=>by
  rcases f w g with x|x
  .exact B x
  omega)).trans (h.block w c B)⟩
variable {g:List (dd×V9)}
def iR.iT{B}(h:iR a b c g)(k:ak B a d)(w:∀x∈B,x<b\/(er a 183 x/\er a 191 x)):iR d b c g:=
 ⟨j3 h.row k (λx f=>(w x f).imp id And.left),λy e=>j3 (h.aK y e) k (λx f=>(w x f).imp id GD)⟩
def iR.dS(h:iR a b c g)(d:e<=b):iR a e c g:=
 ⟨aX h.row d,λy f=>aX (h.aK y f) d⟩
variable {h:List (bW×V9)}
def gv.iT{B}(e:gv a b c h)(k:ak B a d)(f:∀x∈B,x<b\/(er a 221 x/\er a 191 x)):gv d b c h:=
 ⟨j3 e.row k (λx w=>(f x w).imp id And.left),λy g=>j3 (e.aK y g) k (λx w=>(f x w).imp id GD)⟩
structure td(w:W8)(b:Nat)(s:B8)(bn:Nat)(mv:V9)(ls:List (dd×V9))(p:Nat)(ms:List (bW×V9))(AD bv:V9)(wr:W8):Prop where
 ek:fX wr b s p bn AD
 hp:p<=s.size
 gG:gv wr (b+1) AD ms
 na:iR wr (F (X w)) bv ls
 kept:ak (b::mv.ownBlock.toList) w wr
 aC:∀k,AD.ownBlock=P k->mv.ownBlock=P k\/F (X w)<=k
 bw:b<F (X w)
def td.take(w:td a b j e c g f h l m d)(k:ak [b] d i)(p:fX i b j o e l)(s:o<=j.size):td a b j e c g o h l m i:=
 have n:=w.bw
 ⟨p,s,w.gG.kept k oS,w.na.iT k oT,w.kept.step k oS,w.aC,w.bw⟩
def td.lit{n}(wr:td a b j e l g f h p m d)(k:ak (b::p.ownBlock.toList) d i)(u:fX i b j o e c)(t:o<=j.size)(r:gv i (b+1) c n)(s:∀k,c.ownBlock=P k->p.ownBlock=P k\/F (X d)<=k):td a b j e l g o n c m i:=by
 have q:=wr.bw;have y:=wr.kept.size;refine⟨u,t,r,wr.na.iT k (λx w=>?_),wr.kept.step k (λx w=>?_),λx w=>?_,wr.bw⟩
 .rcases bS.1 w with rfl|w
  .exact .inl q
  exact .inr ⟨gl wr.gG.row oD x w,gl wr.gG.row oD x w⟩
 .rcases bS.1 w with rfl|w
  .exact .inl oS
  rcases wr.aC x (oU w)with v|v
  .exact .inl (by simp[v])
  exact .inr v
 rcases s x w with v|v
 .exact wr.aC x v
 exact .inr O
def td.append{W}(t:td a b j e l g f h m c d)(A:ak [] d i){L r}(z:Ow d (F (X a)) 191 1 p (Z L.ts) (jm L.ts)) (u:Ow W (F (X a)) 183 3 r (Z g+1) (FH g++L.cells p)) (y:i.grownBy W c.ownBlock):td a b j e l (g++[(L,p)]) f h m r W:=by
 have B:=t.bw;have o:ak c.ownBlock.toList d W:=((A.mono (C:=c.ownBlock.toList) oS)).grown y (λk s=>.inr (by simp[s]));have w:∀k,c.ownBlock=P k->F (X a)<=k:=λk s=>(t.na.row.lt k s).1
 have q:b∉c.ownBlock.toList:=λk=>by have:=w b (oU k);omega
 have k:∀{v:V9} {n:Nat} {x:V8},Ow d (F (X a)) 191 1 v n x->Ow W (F (X a)) 191 1 v n x:=λ{v n x} s=>j3 s o (λx s=>.inr (gl t.na.row oD x s))
 refine⟨t.ek.kept o q,t.hp,t.gG.iT o (λx s=>.inr ⟨gl t.na.row oD x s,gl t.na.row oD x s⟩),⟨?_,λx s=>?_⟩,t.kept.step o (λx s=>.inr (w x (oU s))),t.aC,t.bw⟩
 .rw[akd,br];exact u
 rcases aS.1 s with s|s
 .exact k (t.na.aK x s)
 simp at s;subst s;exact k z
def ahf:(prog.info? 183).map (λi=>(i.zero,i.size,i.bytes))=P (P (Va #[Vb Bf,Y ⟨#[]⟩,U G 0 0]),3,48):=oK
def aki(a o)(L:dd)(b j u)(h:(L.cells b)[j]?=P u):Ce (Al (Al a o) (Vc #[Vb L.neg,Y L.pd,b] 183)) (((C (F (X a)+1) 0 G):Addr).add j)=P u:=by
 have e:((C (F (X a)+1) 0 G):Addr).add j=(C (F (X a)+1) j G):=by unfold Addr.add;split<;>simp_all
 rw[e,World.cell?_alloc_at _ _ _ _ oS];simpa[dd.cells]using h
def akj(L:dd)(a n c):∀u∈L.cells (U a n c),u.oneCell'=true:=by intro u b;simp[dd.cells]at b;rcases b with rfl|rfl|rfl<;>rfl
variable {a:B8}
def Qv{k}(h:b<=a.size):bR a b k<=a.size:=by
 unfold bR;split
 .exact(kv a b h).2
 exact h
def akG(s f):∀{p:Nat} {l:List (Bool×B8)} {pl:Nat->Nat},p<=s.size->(dT s f p l pl).2.1<=s.size:=by
 induction f with
 |zero=>intro p l pl h;exact h
 |succ f b=>
  intro p l pl h;have a:=(kv s p h).2;rw[dT]
  split
  .split
   .exact b (kv s _ a).2
   exact Qv a
  exact h
def Zw(h:b<=a.size):match ik a b with|.no q=>q<=a.size|.yes q _ _ _=>q<=a.size:=by
 have d:=(kv a b h).2;have f:=(kv a _ d).2;have e:=akG a 4 (l:=[]) (pl:=λ_=>0) f;unfold ik
 by_cases s:(aE a b).1=2
 .rw[aD s]
  by_cases p:(aE a (aE a b).2.2).1=5
  .rw[aD p]
   by_cases c:(dT a 4 (aE a (aE a b).2.2).2.2 [] (λ_=>0)).1=Bt
   .rw[aD c];exact e
   rw[aB c];exact e
  rw[aB p];exact d
 rw[aB s];exact h
def ak7(s a p l b n)(f:n<3):jR s a (3-n) p l b=match ik s (bR s p 4) with
  | .no q=>(Bf,q,l,b)
  | .yes q e c d=>
   if(aE s q).1=7 then jR s a (3-(n+1)) (aE s q).2.2 (l++[qM s p e c]) (b++[uM s a p e c d])
   else(decide ((aE s q).1=8),bR s q 8,l++[qM s p e c],b++[uM s a p e c d]):=by
 have e:3-n=(3-(n+1))+1:=O
 rw[e,jR]
 all_goals(cases ik s (bR s p 4)<;>rfl)
def RB(w:W8)(b:Nat)(s:B8)(bn:Nat)(mv:V9)(n0:Nat)(d:Bool×Nat×List dd×List bW)(e:Ending)(w':W8):Prop:=
 ∃(a:O8)(n c:Nat)(qJ:V9)(ls:List (dd×V9))(ms':List (bW×V9)),e=Vr (Vt #[U a n c,Vb d.1])/\ak (b::mv.ownBlock.toList) w w'/\fX w' b s d.2.1 bn qJ /\
  gv w' (b+1) qJ ms'/\ms'.map (·.1)=d.2.2.2/\(Z ms')<=n0+3/\(∀k,qJ.ownBlock=P k->mv.ownBlock=P k\/F (X w)<=k)/\(d.1=Bt->iR w' (F (X w)) (U a n c) ls/\ls.map (·.1)=d.2.2.1/\(Z ls)<=3/\d.2.1<=s.size)
def aed{w c f k p d s i wr g l}(h:td w b a c f k p d s i wr)(j:Z d<=g+3):RB w b a c f g (Bf,p,l,d.map (·.1)) (Vr (Vt #[U G 0 0,Vb Bf])) wr:=
 ⟨G,0,0,s,[],d,rfl,h.kept,h.ek,h.gG,rfl,j,h.aC,λe=>by cases e⟩
def ak4(w b s i a v c)(h:fX w b s i a v)(g:gv w (b+1) v c)(pk:Z c<=900)(D:i<=s.size)(hs:s.size<=2000000):Calls prog 117 #[Vp (P (C b 0 G))] w (RB w b s a v (Z c) (jR s a 3 i [] (c.map (·.1)))):=by
 have E:s.size<=maxLen:=oM
 obtain⟨i0,hi,W,dx,cB⟩:=info_parts ahf;have d:td w b s a v [] i c v (U G 0 0) w:=⟨h,D,g,⟨dm _ _ _ _,oS⟩,ak.refl _ _,λk e=>.inl e,h.lt⟩;clear h g;go_in;go_wp2
 go_loopg [4] 5 (λg h wr=>∃(f:List (dd×V9))(u:List (bW×V9))(p:Nat)(r:V9),Z f<=3/\4-Z f<=g/\(Z u)=Z c+Z f/\td w b s a v f p u r h wr/\jR s a 3 i [] (c.map (·.1))=jR s a (3-Z f) p (f.map (·.1)) (u.map (·.1)))
 exact⟨[],c,i,v,oS,oS,oS,d,rfl⟩
 case round=>
  clear d;obtain⟨f,u,p,r,_,_,_,g,d⟩:=hrel;obtain⟨_,_,rfl⟩:=aF g.na.row;have k:=H d;clear d;have B:=g.hp
  by_cases Q:Z f=3
  .have S:¬((Z f:Int)<3):=O;have x:=H g;clear g;go_wp2
   go_ret2
   rw[ag k,Q];exact aed x O
  have S:(Z f:Int)<3:=O
  have T:Z f<3:=O
  have d:=H (k.trans (ak7 s a p (f.map (·.1)) (u.map (·.1)) (Z f) T));have V:=g.kept.size;clear k Q;go_wp2_with fail;refine(akh wr b s p a r u g.ek g.gG O B hs).mono ?_;intro e Q k;have o:=Zw (Qv (k:=4) B)
  cases M:ik s (bR s p 4) with
  |no q=>
   rw[M]at k o d;obtain⟨rfl,m,n⟩:=k;have h:=g.take m n o;have x:=H h;clear g m n M h;go_wp2
   go_ret2
   rw[ag d];have N:=(ak.refl [] Q).alloc (Vc #[Vb ((aE s p).1==4),Y ⟨#[]⟩,U G 0 0] 183);have l:=ag x;exact⟨G,0,0,r,[],u,rfl,l.kept.alloc _,l.ek.kept N oS,l.gG.iT N oS,rfl,O,l.aC,λe=>by cases e⟩
  |yes q pd N pl=>
   rw[M]at k o d;obtain⟨_,L,rfl,m,n,y,t,K⟩:=k;obtain⟨R,z,rfl⟩:=aF t;have h:=g.lit m n o y K;have A:=aX t V;have j:=h.na.row;have XI:=h.kept.size;have x:=H h;clear g m n M y t K h;go_wp2_with(at_builtin;refine ka _ rfl _ _ 121 rfl (F (X w)) 183 i0 _ 3 48 underlying121 hi W dx cB rfl oD _ _ _ rfl ((j.alloc _).alloc _) (C (F (X Q)+1) 0 G) 1 1 ((qM s p pd N).cells (U R (Z N) z)) rfl rfl (aki Q _ (qM s p pd N) _) (akj _ _ _ _) oM O oT ?_);intro M w5 h n y;clear y;obtain⟨K,y,rfl⟩:=aF h;have g:=x.append (L:=qM s p pd N) (((ak.refl [] Q).alloc _).alloc _) A h n;have k:=H g;clear h n j x g A;go_wp2_with fail;refine(nS s q a L 7 b _ k.ek o E).mono ?_;rintro e w7⟨rfl,n,g⟩
   cases x:(aE s q).1==7 with
   |true=>have m:(aE s q).1=7:=(oU x);have A:bR s q 7=(aE s q).2.2:=(by unfold bR;rw[aD x]);rw[A]at g;have h:=k.take n g (kv s q o).2;have t:=H (d.trans (aD m));have j:=H h;clear d k n g x m A h;go_wp2;go_roundg(4-(Z f+1));exact⟨_,_,_,_,oT,oS,oT,j,by simpa[qM,uM]using ag t⟩;omega
   |false=>
    have m:¬(aE s q).1=7:=(oU x);have A:bR s q 7=q:=(by unfold bR;rw[aB (by rw[x];decide)]);rw[A]at g;have h:=k.take n g o;have t:=H (d.trans (aB m));have j:=H h;clear d k n g x m A h;go_wp2_with fail;refine(nS s q a L 8 b _ j.ek o E).mono ?_;rintro e g⟨rfl,A,m⟩;have h:=j.take A m (Qv o);have x:=H h;clear j A m h;go_wp2
    go_ret2
    rw[ag t];have l:=ag x;have h:decide ((aE s q).1=8)=((aE s q).1==8):=(by rw[oX];simp);refine⟨K,Z f+1,y,_,_,_,by rw[h];rfl,l.kept,l.ek,l.gG,by simp[uM],oT,l.aC,λ_=>⟨by simpa using l.na,by simp[qM],oT,l.hp⟩⟩
variable {d:Array V9}{a k l:Nat}{m:Nat×Nat}{b c p:W8}
def rX{e w}(g:b.heap[a]?=P (Vc d e m))(n:e≠w):er b w a:=by
 intro i f h;rw[g]at h;injection h with h
 injection h with _ h _
 exact n h
def lC{B e}(w:b.heap[a]?=P (Vc d e m))(k:ak B b c)(f:∀x∈B,x≠a\/er b e x):c.heap[a]?=P (Vc d e m):=by
 rw[k.block a (aM.1 w).1 (λg=>by
  rcases f a g with x|x
  .exact x rfl
  exact x _ _ w)]
 exact w
def acJ(w:W8)(b:Nat)(s:B8)(bn:Nat)(mv:V9)(n0:Nat)(d:Bool×Nat×iu×List bW)(e:Ending)(w':W8):Prop:=
 ∃(x:B8)(a:O8)(n c:Nat)(a':O8)(n' c':Nat)(qJ:V9),e=Vr (Vt #[Va #[Y x,U a n c,U a' n' c'],Vb d.1])/\ak (b::mv.ownBlock.toList) w w'/\fX w' b s d.2.1 bn qJ/\(∀k,qJ.ownBlock=P k->mv.ownBlock=P k\/F (X w)<=k) /\
  (d.1=Bt->∃(bs:List (dd×V9))(ms':List (bW×V9)),x=d.2.2.1.pd/\gv w' (b+1) qJ ms'/\ms'.map (·.1)=d.2.2.2/\(Z ms')<=n0+4/\Ow w' (F (X w)) 191 1 (U a n c) d.2.2.1.ts.length (jm d.2.2.1.ts)/\iR w' (F (X w)) (U a' n' c') bs/\bs.map (·.1)=d.2.2.1.body/\(Z bs)<=3/\d.2.1<=s.size)
structure zD(w:W8)(b:Nat)(s:B8)(bn:Nat)(mv:V9)(h:Nat)(pd:B8)(tv:V9)(ts:List (Bool×B8))(p:Nat)(ms:List (bW×V9))(AD:V9)(wr:W8):Prop where
 ek:fX wr b s p bn AD
 gG:gv wr (b+1) AD ms
 gO:wr.heap[F (X w)]?=P (Vc #[Y ⟨#[]⟩,U G 0 0,U G 0 0] 123)
 hd:wr.heap[h]?=P (Vc #[Y pd,tv] 79)
 Q5:Ow wr (F (X w)) 191 1 tv (Z ts) (jm ts)
 kept:ak (b::mv.ownBlock.toList) w wr
 aC:∀k,AD.ownBlock=P k->mv.ownBlock=P k\/F (X w)<=k
 bw:b<F (X w)
 hw:F (X w)<h
variable {g h:B8}{i:List (Bool×B8)}{j:List (bW×V9)}{f n o:V9}
def zD.take{w}(wr:zD b a g e f k h n i l j o c)(s:ak [a] c p)(m:fX p a g w e o):zD b a g e f k h n i w j o p:=
 have d:=wr.bw;have q:=wr.hw
 ⟨m,wr.gG.kept s oS,lC wr.gO s oT,lC wr.hd s oT,ni wr.Q5 s oT,wr.kept.step s oS,wr.aC,wr.bw,wr.hw⟩
def zD.lE(d:zD b a g e f k h n i l j o c)(w:ak [F (X b)] c p):ak (a::f.ownBlock.toList) b p/\fX p a g l e o/\gv p (a+1) o j/\Ow p (F (X b)) 191 1 n (Z i) (jm i):=by
 have s:=d.bw;refine⟨d.kept.step w oS,d.ek.kept w oT,d.gG.iT w (λx m=>?_),j3 d.Q5 w (λx m=>?_)⟩
 .simp at m;subst m;exact .inr ⟨rX d.gO oD,rX d.gO oD⟩
 simp at m;subst m;exact .inr (rX d.gO oD)
def ai0{n}(h:iR b a f n)(g:b.heap[e]?=P (Vc d 123))(k:ak [e] b c):iR c a f n:=
 h.iT k (λx w=>by simp at w;subst w;exact .inr ⟨rX g oD,rX g oD⟩)
def aku(w b s f a K g)(h:fX w b s f a K)(c:gv w (b+1) K g)(pk:Z g<=800)(E:f<=s.size)(hs:s.size<=2000000):Calls prog 74 #[Vp (P (C b 0 G))] w (acJ w b s a K (Z g) (iC s a f (g.map (·.1)))):=by
 have pN:s.size<=maxLen:=oM
 have v:=h.kept ((ak.refl [] w).alloc (Vc #[Y ⟨#[]⟩,U G 0 0,U G 0 0] 123)) oS;have q:=c.kept ((ak.refl [] w).alloc (Vc #[Y ⟨#[]⟩,U G 0 0,U G 0 0] 123)) oS;obtain⟨S,j,m,i,N,Q,R,T⟩:=h;have h:(Al w (Vc #[Y ⟨#[]⟩,U G 0 0,U G 0 0] 123)).heap[F (X w)]?=P (Vc #[Y ⟨#[]⟩,U G 0 0,U G 0 0] 123):=aG w _;have n:=H h;have V:=Zw E;have HMW:=H (λk (e:K.ownBlock=P k)=>(c.row.lt k e).2);have r:=iC.eq_1 s a f (g.map (·.1));have r:=H r;clear h c;go_in;go_wp2_with fail;refine(PM _ b s f a K Bf (aE s f).2.1 g v q O E hs).mono ?_;intro e L c;clear j m i N Q R T v q
 cases v:ik s f with
 |no q=>
  rw[v]at c V r;obtain⟨rfl,j,m⟩:=c;have i:=lC n j oT;obtain⟨N,f0⟩:=aj i 0;obtain⟨Q,f1⟩:=aj i 1;obtain⟨R,f2⟩:=aj i 2;have T:F (X w)<F (X L):=by have:=j.size;simp at this;omega
  have p:=H j;have l:=H m;clear j m v i n;go_wp2_with fail;obtain⟨z,A,B⟩:=zl N Q R (Y ⟨#[]⟩) (U G 0 0) (U G 0 0);have z:=j4 z;have A:=j4 A;have B:=j4 B;have y:=(CF L (F (X w)) (Y ⟨#[]⟩) (U G 0 0) (U G 0 0)).alloc (Vc #[Y ⟨#[]⟩,U G 0 0] 79);refine bN (v:=Vt #[Va #[Y ⟨#[]⟩,U G 0 0,U G 0 0],Vb Bf]) (by simp[results,results74,go_sem,z,A,B]) rfl ?_;rw[ag r];exact⟨_,_,_,_,_,_,_,K,rfl,(((ak.refl _ w).alloc _).step p oS).step y oS,l.kept y oT,λk e=>.inl e,λe=>by cases e⟩
 |yes q p l pl=>
  rw[v]at c V r;obtain⟨_,o,rfl,j,m,t,M,D⟩:=c;obtain⟨c,h,rfl⟩:=aF M;have T:F (X w)<F (X L):=by have:=j.size;simp at this;omega
  have i:=lC n j (λx d=>by
   rcases bS.1 d with rfl|d
   .exact .inl O
   have:=ag HMW x (oU d);exact .inl O)
  have W:=(ak.refl [] L).alloc (Vc #[Y p,U c (Z l) h] 79);have hI:zD w b s a K (F (X L)) p (U c (Z l) h) l q (g++[(pR s a f p l pl,U c (Z l) h)]) o (Al L (Vc #[Y p,U c (Z l) h] 79)):=by
   refine⟨m.kept W oS,t.iT W oS,lC i W oS,aG _ _,j3 (aX M oS) W oS,((((ak.refl _ w).alloc _).step j (by simp;intro x d;exact .inl (.inr d))).alloc _),λk e=>?_,S,T⟩;rcases D k e with u|u
   .exact .inl u
   exact .inr (by simp at u;omega)
  have HI:=H hI;have ape:F (X w)<F (X L)+1:=O
  clear j m t M D i W hI n v;go_wp2_with fail;refine(nS s q a o 8 b _ HI.ek V pN).mono ?_;rintro e w2⟨rfl,n,M⟩;have j:=HI.take n M;have Xk:=n.size;rw[bL]at Xk;clear HI n M;obtain⟨d0,g0⟩:=aj j.hd 0;obtain⟨d1,g1⟩:=aj j.hd 1
  cases M:(aE s q).1==8 with
  |true=>have i:(aE s q).1=8:=(oU M);have t:bR s q 8=(aE s q).2.2:=(by unfold bR;rw[aD M]);rw[t]at j;obtain⟨N,f0⟩:=aj j.gO 0;obtain⟨Q,f1⟩:=aj j.gO 1;obtain⟨R,f2⟩:=aj j.gO 2;have m:=H (r.trans (aD i));have n:=H j;clear r M i t j;go_wp2_with fail;obtain⟨z,A,B⟩:=zl N Q R (Y p) (U c (Z l) h) (U G 0 0);have y:=CF w2 (F (X w)) (Y p) (U c (Z l) h) (U G 0 0);refine bN (v:=Vt #[Va #[Y p,U c (Z l) h,U G 0 0],Vb Bt]) (by simp[results,results74,go_sem,z,A,B]) rfl ?_;rw[ag m];obtain⟨z1,z2,z3,z4⟩:=n.lE y;exact⟨_,_,_,_,_,_,_,o,rfl,z1,z2,n.aC,λ_=>⟨[],_,rfl,z3,oS,oS,z4,⟨dm _ _ _ _,oS⟩,rfl,oS,(kv s q V).2⟩⟩
  |false=>
   have i:¬(aE s q).1=8:=(oU M);have t:bR s q 8=q:=(by unfold bR;rw[aB (by rw[M];decide)]);rw[t]at j;have m:=H (r.trans (aB i));have n:=H j;clear r M i t j d0 d1 g0 g1;go_wp2_with fail;refine(nS s q a o 9 b _ n.ek V pN).mono ?_;rintro e w3⟨rfl,j,r⟩;have i:=n.take j r;have apj:=j.size;clear n j r
   cases r:(aE s q).1==9 with
   |false=>have n:¬(aE s q).1=9:=(oU r);have t:bR s q 9=q:=(by unfold bR;rw[aB (by rw[r];decide)]);rw[t]at i;obtain⟨N,f0⟩:=aj i.gO 0;obtain⟨Q,f1⟩:=aj i.gO 1;obtain⟨R,f2⟩:=aj i.gO 2;have M:=H (m.trans (aB n));have j:=H i;clear m r n t i;go_wp2_with fail;obtain⟨z,A,B⟩:=zl N Q R (Y ⟨#[]⟩) (U G 0 0) (U G 0 0);have y:=CF w3 (F (X w)) (Y ⟨#[]⟩) (U G 0 0) (U G 0 0);refine bN (v:=Vt #[Va #[Y ⟨#[]⟩,U G 0 0,U G 0 0],Vb Bf]) (by simp[results,results74,go_sem,z,A,B]) rfl ?_;rw[ag M];obtain⟨z1,z2,z3,z4⟩:=j.lE y;exact⟨_,_,_,_,_,_,_,o,rfl,z1,z2,j.aC,λe=>by cases e⟩
   |true=>
    have n:(aE s q).1=9:=(oU r);have t:bR s q 9=(aE s q).2.2:=(by unfold bR;rw[aD r]);rw[t]at i;have M:=H (m.trans (aD n));have j:=H i;have hq3:=(kv s q V).2;clear m r n t i;go_wp2_with fail;refine(ak4 w3 b s (aE s q).2.2 a o _ j.ek j.gG oT hq3 hs).mono ?_;rintro e w4⟨ab,nb,cb,Y1,ls,Y0,rfl,r,uE,W,t,agP,D,n⟩;have v:∀x∈(b::o.ownBlock.toList),x=b\/(er w3 123 x/\er w3 79 x/\er w3 191 x):=λx d=>by
     rcases bS.1 d with rfl|d
     .exact .inl rfl
     exact .inr ⟨gl j.gG.row oD x d,gl j.gG.row oD x d,gl j.gG.row oD x d⟩
    have m:zD w b s a K (F (X L)) p (U c (Z l) h) l (jR s a 3 (aE s q).2.2 [] ((g++[(pR s a f p l pl,U c (Z l) h)]).map (·.1))).2.1 Y0 Y1 w4:=by
     have i:=ag j;have hz:=i.kept.size;refine⟨uE,W,lC i.gO r (λx d=>?_),lC i.hd r (λx d=>?_),j3 i.Q5 r (λx d=>?_),i.kept.step r (λx d=>?_),λk e=>?_,S,T⟩
     .rcases v x d with rfl|d
      .exact .inl O
      exact .inr d.1
     .rcases v x d with rfl|d
      .exact .inl O
      exact .inr d.2.1
     .rcases v x d with rfl|d
      .exact .inl S
      exact .inr d.2.2
     .rcases bS.1 d with rfl|d
      .exact .inl oS
      rcases i.aC x (oU d)with u|u
      .exact .inl (by simp[u])
      exact .inr u
     rcases D k e with u|u
     .exact i.aC k u
     exact .inr O
    have i:=r.size;clear r uE W v D;have D:((g++[(pR s a f p l pl,U c (Z l) h)]).map (·.1))=g.map (·.1)++[pR s a f p l pl]:=oS;rw[D]at m t n⊢;have r:=H n;have W:=H t;have v:=j.kept.size;clear n t j;obtain⟨d0,g0⟩:=aj m.hd 0;obtain⟨d1,g1⟩:=aj m.hd 1;obtain⟨N,f0⟩:=aj m.gO 0;obtain⟨Q,f1⟩:=aj m.gO 1;obtain⟨R,f2⟩:=aj m.gO 2;have j:=H m;clear m;go_wp2_with fail;obtain⟨z,A,B⟩:=zl N Q R (Y p) (U c (Z l) h) (U ab nb cb);have y:=CF w4 (F (X w)) (Y p) (U c (Z l) h) (U ab nb cb);refine bN (v:=Vt #[Va #[Y p,U c (Z l) h,U ab nb cb],Vb (jR s a 3 (aE s q).2.2 [] (g.map (·.1)++[pR s a f p l pl])).1]) (by simp[results,results74,go_sem,z,A,B]) rfl ?_;rw[ag M];obtain⟨z1,z2,z3,z4⟩:=j.lE y;refine⟨_,_,_,_,_,_,_,Y1,rfl,z1,z2,j.aC,λm=>?_⟩;obtain⟨t,n,y3,y4⟩:=r m;exact⟨ls,Y0,rfl,z3,W,by simp at agP;omega,z4,ai0 (t.dS v) j.gO y,n,y3,y4⟩
section
open Go.RowKit Go.Maps Go.ChangeMaps Go.WideMaps
def pU(v:V9):Option (DataW V9×List MemPlace):=P (.held v,[])
def uJ(s:B8):Lit:=.string s.data.toList
def OM{a b}(h:a≠b):uJ a≠uJ b:=λe=>h (by
 have:a.data.toList=b.data.toList:=by simpa[uJ]using e
 exact SX (LA.1 this))
open Classical in
noncomputable def tY(V:B8->Option V9)(k:B8)(v:V9):B8->Option V9:=λx=>if x=k then P v else V x
def xR(V k v):tY V k v k=P v:=by simp[tY]
def wm{V k x v}(h:x≠k):tY V k v x=V x:=by simp[tY,h]
def dt(f:Program)(K:TypeId)(w:W8)(b n:Nat)(V:B8->Option V9):Prop:=
 ∃D:DataW V9,w.ownsMap f K pU b n D/\∀k:B8,Maps.has D (uJ k)=(V k).isSome/\∀z,D.atKey (uJ k) (.held z)=.held ((V k).getD z)
def dt.made(f K w):dt f K (Al w (.map #[] 0)) (F (X w)) 0 (λ_=>G):=
 ⟨.map [],World.ownsMap_made w f K pU,λ_=>⟨rfl,λ_=>rfl⟩⟩
def dt.lt{f K w b n V}(h:dt f K w b n V):b<F (X w):=by obtain⟨_,c,_⟩:=h;exact c.lt
def dt.block{f K w d b n V}(h:dt f K w b n V)(m:d.heap[b]?=w.heap[b]?):dt f K d b n V:=by obtain⟨D,⟨e,c,j,k⟩,l⟩:=h;exact⟨D,⟨e,c,m.trans j,k⟩,l⟩
def dt.alloc{f K w b n V}(h:dt f K w b n V)(o):dt f K (Al w o) b n V:=by obtain⟨D,d,c⟩:=h;exact⟨D,d.alloc o,c⟩
def dt.mono{f K w b n m V}(h:dt f K w b n V)(e:n<=m):dt f K w b m V:=by obtain⟨D,d,c⟩:=h;exact⟨D,d.mono e,c⟩
def Ac{v d ps}(h:pU v=P (d,ps)):d=.held v:=by simp only[pU,DS,Prod.mk.injEq]at h;exact h.1.symm
section
variable{f:Program} (w:W8) {i:Array Oper} {g:List Oper} {o:Oper} {a:Act} {Q:Exit->Act->W8->Prop}
def sY(A:o.guard=none)(m x t)(j:o.op=Op.lookup t m x Bt)(K e) (p:f.underlying K=some .string) (E:f.underlying t=some (.map K e)) {z} (N:(zeroValue e).run f w=.ok z w) (b n) (V)(B:a.eval m=.map (some b)) (v:dt f K w b n V) (d) (M:a.eval x=.string d) (h:d.size<=maxLen) (u) (L:(V d).getD z=u) (c) (y:(V d).isSome=c)(s:wpList f i Q g (a.put o.dst (.tuple #[u,.bool c])) w):wpList f i Q (o::g) a w:=by
 obtain⟨D,r,l⟩:=v;refine wpList_lookup_own_ok w A m x t j K e (string_keyed p) E pU N (.held z) [] rfl b n D B r (.string d) (uJ d) M (keyOf_string_mk p h) (λv k q=>?_);have k:=Ac q;rw[(l d).2 z]at k;have q:(V d).getD z=v:=by injection k
 rw[(l d).1,y,<-q,L];exact s
def Vn(A:o.guard=none)(m x t)(k:o.op=Op.lookup t m x Bf)(K e) (p:f.underlying K=some .string) (E:f.underlying t=some (.map K e)) {z} (R:(zeroValue e).run f w=.ok z w) (b n) (V)(B:a.eval m=.map (some b)) (d:dt f K w b n V) (c) (N:a.eval x=.string c) (j:c.size<=maxLen) (u) (L:(V c).getD z=u)(y:wpList f i Q g (a.put o.dst u) w):wpList f i Q (o::g) a w:=by
 refine Hd A λr h=>?_
 obtain⟨D,s,r⟩:=d;obtain⟨v,_,d,M⟩:=s.lookup (string_keyed p) E R (zd:=.held z) (zp:=[]) rfl (keyOf_string_mk p j);have l:=Ac M;rw[show DataW.atKey D (Lit.string c.data.toList) (DataW.held z)=DataW.held ((V c).getD z) from(r c).2 z]at l;have q:(V c).getD z=v:=by injection l
 rw[<-q,L]at d;unfold Oper.wp;simp[execOp,k,B,N,d,Result.andThen];exact h _ _ y
def Df(s:o.guard=none)(m x v t)(j:o.op=Op.mapUpdate t m x v)(K e) (p:f.underlying K=some .string) (B:f.underlying t=some (.map K e)) (b n) (V)(y:a.eval m=.map (some b)) (k:dt f K w b n V) (A:n<maxLen) (c) (u) (L:a.eval x=.string c) (E:a.eval v=u) (h:c.size<=maxLen)(r:∀z,dt f K z b (n+1) (tY V c u)->w.grownBy z (some b)->wpList f i Q g (a.put o.dst undef) z):wpList f i Q (o::g) a w:=by
 obtain⟨D,d,l⟩:=k;refine wpList_mapUpdate_own w s m x v t j K e (string_keyed p) B pU b n D y d A (.string c) u (uJ c) L E (keyOf_string_mk p h) (.held u) [] rfl (λz k q=>r z ⟨_,k,λk=>?_⟩ q)
 by_cases e:k=c
 .subst e;rw[xR];exact⟨Maps.has_put_same d.isMap (by trivial) _,λz=>Maps.atKey_put_same d.isMap (by trivial) _ _⟩
 rw[wm e];exact⟨(Maps.has_put_other (OM e) _).trans (l k).1,λz=>(Maps.atKey_put_other (OM e) _ _).trans ((l k).2 z)⟩
end
end
end
section
section
open Go.RowKit Go.Maps Go.ChangeMaps Go.WideMaps
abbrev Th:=B8×List B8
abbrev Th.p(t:Th):B8:=t.1
abbrev Th.ts(t:Th):List B8:=t.2
def bj(l:List B8)(i:Nat):B8:=(l[i]?).getD ⟨#[]⟩
def bP(t:Th):V8:=[Y t.p,Y (bj t.ts 0),Y (bj t.ts 1),Y (bj t.ts 2),Y (bj t.ts 3)]
def cP(t:Th):V9:=Va (bP t).toArray
structure fY(t:Th):Prop where
 pd:t.p.size<=1000000000
 dc:Z t.ts<=4
 sz:∀x∈t.ts,x.size<=1000000000
 ne:∀x∈t.ts,0<x.size
def ajg{t}(h:fY t)(i):(bj t.ts i).size<=1000000000:=by
 unfold bj;rcases BE i (Z t.ts)with b|b
 .rw[dr b];exact h.sz _ (aN b)
 rw[od b];simp[ByteArray.size]
def Pv{t}(h:fY t){i}(b:i<Z t.ts):0<(bj t.ts i).size:=by unfold bj;rw[dr b];exact h.ne _ (aN b)
def Pw{l i}(b:Z l<=i):(bj l i).size=0:=by unfold bj;rw[od b];rfl
def ab0{a b}(l:fY a)(m:fY b)(h:cP a=cP b):a=b:=by
 obtain⟨_,c⟩:=a;obtain⟨_,d⟩:=b;simp only[cP,bP,Mc,DG,zN,Value.string.injEq,vf]at h;obtain⟨j,n,b,f,p⟩:=h;subst j;have j:∀i,i<4->bj c i=bj d i:=λi e=>by
  match i,e with
  | 0,_=>exact n
  | 1,_=>exact b
  | 2,_=>exact f
  | 3,_=>exact p
 have s:Z c<=4:=l.dc;have t:Z d<=4:=m.dc;have q:Z c=Z d:=by
  rcases BF (Z c) (Z d)with h|h|h
  .have e:=j (Z c) O;have r:0<(bj d (Z c)).size:=Pv m h;have k:=Pw (l:=c) L9;rw[e]at k;omega
  .exact h
  have e:=j (Z d) O;have r:0<(bj c (Z d)).size:=Pv l h;have k:=Pw (l:=d) L9;rw[<-e]at k;omega
 congr 1
 refine GM q λi b f=>?_
 have:=j i O;unfold bj at this;rw[dr b,dr f]at this;exact this
def zo:ArrKey prog 88 9 5:=⟨underlying88,oK,oK,oK⟩
def anp:KeyLaw prog 88:=zo.law
def wg:Keyed prog 88:=Keyed.of_law anp
def ab7:∃m,prog.types.size=m+1:=⟨prog.types.size-1,by have:0<prog.types.size:=of_decide_eq_true oK;omega⟩
def J9{t}(h:fY t):∃l,keyOf prog 88 (cP t)=P l:=by
 have l:=zo.keyType ab7;obtain⟨_,b⟩:=ab7;have c:t.p.size<=maxLen:=by have:=h.pd;unfold maxLen;omega
 have d:∀i,(bj t.ts i).size<=maxLen:=λi=>by have:=ajg h i;unfold maxLen;omega
 unfold keyOf;simp only[zo.hu];rw[aD (by simp[l,Value.formed,zo.hu,zo.size,cP,bP]),b];unfold Program.keyLits;simp only[zo.hu,cP,Value.cells];rw[aD (by rw[zo.size];rfl),show List.range 5=[0,1,2,3,4] from rfl,DO,DO,DO,DO,DO,List.mapM_nil];simp[zo.one,Program.keyLits,bP,underlying9,c,d]
def bK(L:List (Th×Nat))(t:Th):Option Nat:=(L.find? λp=>decide (p.1=t)).map (·.2)
def kh(L:List (Th×Nat))(t:Th)(h:Nat):List (Th×Nat):=if(bK L t).isSome then L.map (λp=>if p.1=t then(t,h) else p) else L++[(t,h)]
def rU{L t n}(h:bK L t=P n):(t,n)∈L:=by unfold bK at h;obtain⟨_,b,rfl⟩:=DR.1 h;have c:=List.mem_of_find?_eq_some b;have d:=List.find?_some b;rw[<-of_decide_eq_true d];exact c
def vQ{L t}(h:bK L t=G):∀n,(t,n)∉L:=by intro n b;unfold bK at h;rw[Option.map_eq_none_iff,List.find?_eq_none]at h;exact h _ b (decide_eq_true rfl)
def sL{L}(b:(L.map (·.1)).Nodup){t n}(h:(t,n)∈L):bK L t=P n:=by
 cases f:bK L t with
 |none=>exact absurd h (vQ f n)
 |some m=>
  have e:=rU f;have:∀(L:List (Th×Nat)),(L.map (·.1)).Nodup->(t,n)∈L->(t,m)∈L->m=n:=by
   intro L
   induction L with
   |nil=>intro _ h;cases h
   |cons x r j=>
    intro b e i;rw[ir,wN]at b;rcases bS.1 e with c|c<;>rcases bS.1 i with d|d
    .have:=c.trans d.symm;injection this with _ this;exact this.symm
    .exact absurd (fW (f:=Prod.fst) d) (by rw[<-c]at b;exact b.1)
    .exact absurd (fW (f:=Prod.fst) c) (by rw[<-d]at b;exact b.1)
    exact j b.2 c d
  rw[this L b h e]
def bQ(w:W8)(b:Nat)(L:List (Th×Nat)):Prop:=
 ∃D:DataW V9,w.ownsMap prog 88 pU b (Z L) D/\Maps.size D=Z L/\(L.map (·.1)).Nodup/\(∀p∈L,fY p.1) /\
  (∀p∈L,∀l,keyOf prog 88 (cP p.1)=P l->Maps.has D l=Bt/\∀z,D.atKey l z=.held (I J p.2)) /\
  (∀l,Maps.has D l=Bt->∃p∈L,keyOf prog 88 (cP p.1)=P l)
def bQ.made(w):bQ (Al w (.map #[] 0)) (F (X w)) []:=
 ⟨.map [],World.ownsMap_made w _ _ pU,rfl,oS,oS,oS,λl h=>by cases h⟩
def bQ.lt{w b L}(h:bQ w b L):b<F (X w):=by obtain⟨_,c,_⟩:=h;exact c.lt
def bQ.ok{w b L}(h:bQ w b L):∀p∈L,fY p.1:=by obtain⟨_,_,_,_,h,_⟩:=h;exact h
def bQ.nodup{w b L}(h:bQ w b L):(L.map (·.1)).Nodup:=by obtain⟨_,_,_,h,_⟩:=h;exact h
def bQ.kept{w d b L c}(h:bQ w b L)(f:w.grownBy d c)(i:P b≠c):bQ d b L:=by obtain⟨D,e,h⟩:=h;exact⟨D,e.kept f i,h⟩
def bQ.block{w d b L}(h:bQ w b L)(k:d.heap[b]?=w.heap[b]?):bQ d b L:=by obtain⟨D,⟨e,c,f,i⟩,j⟩:=h;exact⟨D,⟨e,c,k.trans f,i⟩,j⟩
def bQ.alloc{w b L}(h:bQ w b L)(o):bQ (Al w o) b L:=h.kept (BI w o G) oS
def bQ.isMap{w b L}(h:bQ w b L):∃d c,w.heap[b]?=P (.map d c):=by obtain⟨_,⟨d,c,e,_⟩,_⟩:=h;exact⟨d,c,e⟩
def F3{a b l}(e:fY a)(f:fY b)(c:keyOf prog 88 (cP a)=P l)(d:keyOf prog 88 (cP b)=P l):a=b:=ab0 e f (wg.inj c d)
def bQ.look{w b L}(h:bQ w b L){t}(s:fY t){T}(v:prog.underlying T=P (.map 88 3)):(Instr.lookup T (.map (P b)) (cP t) Bt).run prog w=.ok (Vt #[I J (((bK L t).getD 0:Nat):Int),Vb (bK L t).isSome]) w:=by
 obtain⟨D,u,_,_,k,f,d⟩:=h;obtain⟨l,j⟩:=J9 s;obtain⟨_,_,h,y⟩:=u.look_ok wg v (z:=I J 0) oK (zd:=.held (I J 0)) (zp:=[]) rfl j;have c:=Ac y
 cases q:bK L t with
 |some n=>obtain⟨i,m⟩:=f _ (rU q) l j;rw[m]at c;have c:=Bu c;subst c;rw[i]at h;exact h
 |none=>
  have i:Maps.has D l=false:=by
   cases x:Maps.has D l with
   |false=>rfl
   |true=>obtain⟨p,r,m⟩:=d l x;have e:=F3 (k p r) s m j;exact absurd (show(t,p.2)∈L by rw[<-e];exact r) (vQ q _)
  rw[Maps.atKey_of_not_has i]at c;have c:=Bu c;subst c;rw[i]at h;exact h
def ZP(L t n):(kh L t n).length=if(bK L t).isSome then(Z L) else(Z L)+1:=by
 unfold kh
 split<;>simp
def JL{L t n p}(h:p∈kh L t n):p=(t,n)\/(p∈L/\p.1≠t):=by
 unfold kh at h
 split at h
 .obtain⟨q,e,rfl⟩:=aU.1 h
  split
  .exact .inl rfl
  rename_i b;exact .inr ⟨e,b⟩
 rename_i b;rcases aS.1 h with h|h
 .refine .inr ⟨h,λe=>?_⟩;have q:bK L t=none:=by simpa using b
  exact vQ q p.2 (by rw[<-e];exact h)
 exact .inl (bu.1 h)
def O9(L t n):(t,n)∈kh L t n:=by
 unfold kh
 split
 .rename_i h;obtain⟨m,b⟩:=tq.1 h;exact aU.2 ⟨_,rU b,oS⟩
 simp
def YP{L t n p}(h:p∈L)(b:p.1≠t):p∈kh L t n:=by
 unfold kh
 split
 .exact aU.2 ⟨p,h,by simp[b]⟩
 exact List.mem_append_left _ h
def akK{L t n}:(kh L t n).map (·.1)=if(bK L t).isSome then L.map (·.1) else L.map (·.1)++[t]:=by
 unfold kh
 split
 .rw[km];refine uh λp _=>?_
  simp only[Function.comp]
  split
  .rename_i e;exact e.symm
  rfl
 simp
def FN{L t n}(h:(L.map (·.1)).Nodup):((kh L t n).map (·.1)).Nodup:=by
 rw[akK]
 split
 .exact h
 rename_i c;refine pF.2 ⟨h,oS,λa d b e=>?_⟩;rw[bu.1 e];rintro rfl;obtain⟨p,f,e⟩:=aU.1 d;have b:bK L a=none:=by simpa using c
 exact vQ b p.2 (by rw[<-e];exact f)
def ajN{d K}{w:W8}{b n D}(h:w.ownsMap d K pU b n D):w.ownsMap d K pU b (Maps.size D) D:=by obtain⟨f,e,i,c,_,rfl⟩:=h;exact⟨f,e,i,c,by simp[Maps.size,length_sorted],rfl⟩
def bQ.put{w b L}(h:bQ w b L){t}(E:fY t)(n:Nat)(R:Z L<maxLen){T}(S:prog.underlying T=P (.map 88 3)):∃A,(Instr.mapUpdate T (.map (P b)) (cP t) (I J n)).run prog w=.ok () A/\bQ A b (kh L t n)/\w.mapTurned A b:=by
 obtain⟨D,B,W,V,k,f,c⟩:=h;obtain⟨l,i⟩:=J9 E;obtain⟨A,x,v,q⟩:=B.store wg S R i (val:=I J n) (d:=.held (I J n)) (ps:=[]) rfl;have u:=wg.key i;have s:Maps.has D l=(bK L t).isSome:=by
  cases y:bK L t with
  |some m=>exact(f _ (rU y) l i).1
  |none=>
   cases r:Maps.has D l with
   |false=>rfl
   |true=>obtain⟨p,h,d⟩:=c l r;have e:=F3 (k p h) E d i;exact absurd (show(t,p.2)∈L by rw[<-e];exact h) (vQ y _)
 have y:Maps.size (D.put l (.held (I J n)))=(kh L t n).length:=by rw[Maps.size_put (B.tidy wg),s,ZP,W]
 refine⟨A,x,⟨_,?_,y,FN V,λp h=>?_,λp h r m=>?_,λr m=>?_⟩,q⟩
 .rw[<-y];exact ajN v
 .rcases JL h with rfl|⟨h,_⟩
  .exact E
  exact k p h
 .rcases JL h with rfl|⟨h,K⟩
  .have e:=cI (m.symm.trans i);subst e;exact⟨Maps.has_put_same B.isMap u _,λz=>Maps.atKey_put_same B.isMap u _ _⟩
  have j:r≠l:=λe=>K (F3 (k p h) E (e▸m) i)
  obtain⟨M,N⟩:=f p h r m;exact⟨(Maps.has_put_other j _).trans M,λz=>(Maps.atKey_put_other j _ _).trans (N z)⟩
 by_cases e:r=l
 .subst e;exact⟨_,O9 L t n,i⟩
 rw[Maps.has_put_other e]at m;obtain⟨p,h,d⟩:=c r m;exact⟨p,YP h (λm=>e (cI ((m▸d).symm.trans i))),d⟩
def bQ.len{w b L}(h:bQ w b L){T}(e:prog.underlying T=P (.map 88 3))(c):(Builtin.len_ #[T] c #[.map (P b)]).run prog w=.ok (I J (Z L:Nat)) w:=by obtain⟨_,d,f,_⟩:=h;rw[d.len e c,f]
def n9(w:W8)(b r:Nat)(L:List (Th×Nat))(Lf:Th->Prop)(cA:Nat):Prop:=
 ∃(D:DataW V9)(left:Lit->Bool),w.ranges prog 88 pU b r (Z L) D left cA/\Maps.size D=Z L/\(L.map (·.1)).Nodup/\(∀p∈L,fY p.1) /\
  (∀p∈L,∀l,keyOf prog 88 (cP p.1)=P l->Maps.has D l=Bt/\∀z,D.atKey l z=.held (I J p.2)) /\
  (∀l,Maps.has D l=Bt->∃p∈L,keyOf prog 88 (cP p.1)=P l) /\
  (∀p∈L,∀l,keyOf prog 88 (cP p.1)=P l->(left l=Bt↔Lf p.1))
def n9.map{w b r L c cA}(h:n9 w b r L c cA):bQ w b L:=by obtain⟨D,_,d,e,f,i,j,k,_⟩:=h;exact⟨D,d.owns,e,f,i,j,k⟩
def n9.lt{w b r L c cA}(h:n9 w b r L c cA):r<F (X w):=by obtain⟨_,_,d,_⟩:=h;exact d.lt
def n9.kT{w i b r L j cA}(h:n9 w b r L j cA)(s:i.heap[b]?=w.heap[b]?)(t:i.heap[r]?=w.heap[r]?):n9 i b r L j cA:=by obtain⟨D,left,⟨l,d,e,f,k,m,c,u,q,n,g⟩,p⟩:=h;exact⟨D,left,⟨l,d,e,f,k,s.trans m,c,u,q,t.trans n,g⟩,p⟩
def n9.XW{w b r L c cA}(h:n9 w b r L c cA):∃o,w.heap[r]?=P o/\o.isWalk=true:=by obtain⟨_,_,⟨_,_,_,_,_,_,_,_,_,d,_⟩,_⟩:=h;exact⟨_,d,rfl⟩
section
variable(w:W8) {ops:Array Oper} {g:List Oper} {o:Oper} {a:Act} {Q:Exit->Act->W8->Prop}
def Kr(q:o.guard=G)(m t)(f:o.op=Op.range t m)(x:prog.underlying t=P (.map 88 3))(b L)(s:a.eval m=.map (P b)) (p:bQ w b L)(n:∀l,n9 l b (F (X w)) L (λ_=>True) (Z L)->w.grownBy l G->F (X l)=F (X w)+1->wpList prog ops Q g (a.put o.dst (Vp (P (C (F (X w)) 0 G)))) l):wpList prog ops Q (o::g) a w:=by
 obtain⟨D,k,i,u,e,c,d⟩:=p;refine wpList_range_own w q m t f 88 3 wg x pU b (Z L) D s k λl p j h=>n l ⟨D,_,by rw[<-i]at p⊢;exact p,i,u,e,c,d,λp v l r=>?_⟩ j h
 exact⟨λ_=>trivial,λ_=>(c p v l r).1⟩
def Kq(hg:o.guard=G)(it)(hop:o.op=Op.next it Bf)(b r L K cA)(S:a.eval it=Vp (P (C r 0 G))) (h:n9 w b r L K cA)(k:(∀p∈L,¬K p.1)->wpList prog ops Q g (a.put o.dst (Vt #[Vb Bf])) w)(m:∀t n j d,(t,n)∈L->K t->n9 j b r L (λx=>K x/\x≠t) d->d<cA->w.grownBy j (P r)->F (X j)=(F (X w)) ->(Instr.entry (Vp (P (C r 0 G)))).run prog j=.ok (Vt #[cP t,I J n]) j->wpList prog ops Q g (a.put o.dst (Vt #[Vb Bt,cP t,I J n])) j):wpList prog ops Q (o::g) a w:=by
 obtain⟨D,left,h1,M,hn,f,i,t,s⟩:=h;refine wpList_next_ranges w hg it hop 88 wg pU (id:V9->V9) (id:V9->V9) (λv E _=>⟨v,rfl⟩) (λv y _=>⟨v,rfl⟩) b r (Z L) D left cA S h1
  (λ_ h=>k λp u c=>?_) ?_
 .obtain⟨l,z⟩:=J9 (f p u);have:=(s p u l z).2 c;rw[h]at this;cases this
 intro x c E y j d B T hv z hrg V R hsz N;have A:=Maps.has_true_of_atKey z;obtain⟨p,u,v⟩:=t E A;have W:=wg.inj B v;have hy:=Ac (v:=c) (d:=y.1) (ps:=y.2) hv;have e:c=I J p.2:=by have q:=z (.held undef);rw[(i p u E v).2,hy]at q;exact(Bu q).symm
 subst W e;refine m p.1 p.2 j d u ((s p u E v).1 T) ⟨D,_,hrg,M,hn,f,i,t,λq hq l h=>?_⟩ V R hsz N;rw[pE,s q hq l h,zL];refine Mf λ_=>⟨λM e=>?_,λW=>Maps.sameKey_ne λe=>W (F3 (f q hq) (f p u) (e▸h) v)⟩
 rw[e]at h;have h:=cI (v.symm.trans h);rw[<-h,WideAt.sameKey_self (wg.key v)]at M
 cases M
def xT(l:o.guard=G)(m x t)(h:o.op=Op.lookup t m x Bt)(p:prog.underlying t=P (.map 88 3))(b L)(n:a.eval m=.map (P b)) (d:bQ w b L) (e) (r:a.eval x=cP e) (i:fY e) (u) (q:(I J (((bK L e).getD 0:Nat):Int))=u) (c) (k:(bK L e).isSome=c)(j:wpList prog ops Q g (a.put o.dst (Vt #[u,Vb c])) w):wpList prog ops Q (o::g) a w:=by
 refine Hd l λs f=>?_
 unfold Oper.wp;simp[execOp,h,n,r,d.look i p,Result.andThen];rw[q,k];exact f _ _ j
def Rl(q:o.guard=G)(m x v t)(h:o.op=Op.mapUpdate t m x v)(u:prog.underlying t=P (.map 88 3))(b L)(r:a.eval m=.map (P b)) (c:bQ w b L) (s:Z L<maxLen) (j) (n:Nat) (z:a.eval x=cP j) (y:a.eval v=I J n) (i:fY j)(p:∀e,bQ e b (kh L j n)->w.mapTurned e b->wpList prog ops Q g (a.put o.dst undef) e):wpList prog ops Q (o::g) a w:=by
 refine Hd q λd f=>?_
 obtain⟨e,d,k,l⟩:=c.put i n s u;unfold Oper.wp;simp[execOp,h,r,z,y,d,Result.andThen];exact f _ _ (p e k l)
end
end
def MJ{α:Type}:∀(k:Ask α)(w:W8),w.drawn<=(w.ask k).2.drawn
 | .done a,w=>bD _
 | .ask what range k,w=>by
  rw[World.ask]
  split
  .exact MJ (k 0) w
  exact bf (L6 _) (MJ (k _) { w with drawn:=w.drawn+1 })
def aaF(w:W8)(c):w.drawn<=(w.sys c).2.drawn:=by
 have h:=MJ (Kernel.perform c w.os) w;unfold World.sys
 split
 .exact bD _
 rename_i a;rw[a]at h;exact h
def ZW{α:Type}:Result α->W8
 | .ok _ w=>w
 | .halt _ w=>w
variable {g:Addr}{a:Program}{h:V9}{b d:W8}
def afO{p l}(w:b.farStore a g h p=.ok (d,l)):d.drawn=b.drawn:=by
 unfold World.farStore at w
 split at w
 .split at w
  .rename_i c
   cases w
   simp only[World.viewStore,bind,Except.bind,pure,Except.pure]at c
   repeat' split at c
   all_goals first|(cases c;done)|(cases c;rfl)|skip
  cases w
 cases w
def aaa {α:Type}(p):∀ (m:Sem α) (w:W8),w.drawn<=(ZW (m.run p w)).drawn:=by
 intro m
 induction m with
 | pure a=>intro w;exact bD _
 | load m a k ih=>
  intro w;rw[Sem.run]
  split
  ·exact ih _ w
  split
  ·exact ih _ w
  exact bD _
 | store m a v k ih=>
  intro w
  have key:w.drawn<=(ZW (match w.cell? a with
   | some _ => if w.frozen? a then .halt (.unsupported (.unsafePointer "a write to bytes that a string shares")) w else k.run p (w.setCell a v)
   | none=>match w.farStore p a v (m==.atomic) with
    | .ok (w,_)=>k.run p w
    | .error h=>.halt h w)).drawn:=by
   split
   ·split
    ·exact bD _
    exact ih (w.setCell a v)
   split
   ·rename_i h1;have:=afO h1;exact bf (wR this.symm) (ih _)
   exact bD _
  cases v <;> first | exact bD _ | exact key
 | new o k ih=>intro w;exact ih _ { w with heap:=w.heap.push o }
 | shape r k ih=>intro w;exact ih _ w
 | freeze a n k ih=>
  intro w;have:(w.freeze a n).drawn=w.drawn:=by unfold World.freeze;split <;> rfl
  exact bf (wR this.symm) (ih (w.freeze a n))
 | frozen a k ih=>intro w;exact ih _ w
 | getObj r k ih=>
  intro w;rw[Sem.run]
  split
  ·exact bD _
  ·exact ih _ w
  exact bD _
 | setObj r o k ih=>
  intro w;rw[Sem.run]
  split
  ·exact bD _
  ·exact ih { w with heap:=w.heap.setIfInBounds r o }
  exact bD _
 | choose q k ih=>
  intro w;rw[Sem.run]
  split
  ·exact ih _ w
  exact bf (L6 _) (ih _ { w with drawn:=w.drawn+1 })
 | sys c k ih=>intro w;exact bf (aaF w c) (ih _ (w.sys c).2)
 | program k ih=>intro w;exact ih _ w
 | mark m k ih=>intro w;exact ih w
 | halt h=>intro w;exact bD _
def jo{α:Type}{m:Sem α}{p}(h:m.run a d=.ok p b):d.drawn<=b.drawn:=by have:=aaa a m d;rw[h]at this;exact this
def mT{α:Type}{m:Sem α}{x}(h:m.run a b=.halt x d):b.drawn<=d.drawn:=by have:=aaa a m b;rw[h]at this;exact this
def qC:GStep->W8
 | .go _ w _=>w
 | .comm _ _ _ _ w _=>w
 | .spawn _ _ w _=>w
 | .count _ w _=>w
 | .timer _ _ w _=>w
 | .alone _ _ w _=>w
 | .newcoro _ _ _ w _=>w
 | .coroswitch _ _ _ w _=>w
 | .collect _ w _=>w
 | .watch _ w _=>w
 | .ended _ w _=>w
def Cb(a s):qC (s.after a)=qC s:=by cases s<;>rfl
def UL(p a v w):qC (endPrinting p a v w)=w:=by
 unfold endPrinting;simp only
 repeat' split
 all_goals rfl
def afj(w b t o):w.drawn<=(qC (endWith w b t o)).drawn:=by
 have h:=aaF w (.write b t);unfold endWith;simp only
 split
 .rename_i a;rw[a]at h;split<;>exact h
 .rename_i a;rw[a]at h;exact h
 rename_i a;rw[a]at h;exact h
def UK(p b a d m w):w.drawn<=(qC (endFatal p b a d m w)).drawn:=by
 unfold endFatal;simp only
 split
 .rename_i h;exact jo h
 .rename_i h;exact mT h
 rename_i h;exact mT h
def aog(p a d f w):w.drawn<=(qC (writeOn p a d f w)).drawn:=by
 unfold writeOn;simp only[DT]
 split
 .exact bD _
 split
 .rename_i h;exact jo (G6 h).1
 .rename_i h;exact mT (G6 h).1
 .rename_i h;exact mT (G6 h).1
 rename_i h;exact mT (G6 h).1
def af1(p a d w):w.drawn<=(qC (die p a d w)).drawn:=by
 unfold die;simp only[DT]
 split
 .exact aog _ _ _ _ _
 split
 .split
  .exact bD _
  exact afj _ _ _ _
 split
 .exact bD _
 .split
  .rename_i h;exact jo h
  rename_i h;exact mT h
 .rw[Cb]
  split
  .rename_i h;exact jo h
  .rename_i h;exact jo h
  .rename_i h;exact mT h
  .rename_i h;rw[UL];exact mT h
  exact bD _
 exact bD _
def af7(p b a d g w):w.drawn<=(qC (early p b a d g w)).drawn:=by
 unfold early;simp only
 repeat' split
 all_goals first|exact bD _|(have h:=jo ‹Sem.run _ _ _=Result.ok _ _›;exact h)|(have h:=mT ‹Sem.run _ _ _=Result.halt _ _›;exact h)
def M7(p b c a d v w):qC (doReturn p b c a d v w)=w:=by
 unfold doReturn
 repeat' split
 all_goals rfl
def aeo(p e a b d w):w.drawn<=(qC (callDeferred p e a b d w)).drawn:=by
 unfold callDeferred;simp only[DT];generalize(_&&_:Bool)=c
 split
 .exact bD _
 rw[Cb]
 split
 all_goals rename_i h
 all_goals first
  |exact jo h
  |exact mT h
  |exact bf (mT h) (UK _ _ _ _ _ _)
  | (split<;>exact jo h)
def anV(p b d a c w):w.drawn<=(qC (unwind p b d a c w)).drawn:=by
 unfold unwind;simp only[DT]
 split
 .rw[Cb]
  split
  .rename_i h;exact jo h
  rename_i h;exact mT h
 .exact aeo _ _ _ _ _ _
 split
 .exact bD _
 .split
  .exact bD _
  split
  .exact bD _
  split
  .split
   .exact bD _
   split
   .rename_i h;exact jo h
   .rename_i h;exact mT h
   rename_i h;exact mT h
  split
  .rw[UL];exact bD _
  exact bD _
 split
 .rw[M7];exact bD _
 rw[Cb]
 split
 .rename_i h;rw[M7];exact jo h
 .rename_i h;exact mT h
 rename_i h;exact mT h
def MA(p a d b c m w):w.drawn<=(qC (stepG.apply p a d b c m w)).drawn:=by
 have e:(if a=Bt then m.runT p w #[] else(m.run p w,#[])).1=m.run p w:=by split<;>simp
 unfold stepG.apply;simp only;generalize(if a=Bt then m.runT p w #[] else(m.run p w,#[]))=r at e⊢;obtain⟨r,f⟩:=r;simp only at e;subst e;simp only;rw[Cb]
 split
 all_goals rename_i h
 all_goals first
  |exact jo h
  |exact mT h
  |exact bf (mT h) (UK _ _ _ _ _ _)
  |exact bf (mT h) (af7 _ _ _ _ _ _)
  | ((repeat' split);all_goals exact jo h)
def aju(p a d b c w):w.drawn<=(qC (stepG.oper p a d b c w)).drawn:=by
 unfold stepG.oper
 split
 .exact bD _
 split
 .exact MA _ _ _ _ _ _ _
 exact MA _ _ _ _ _ _ _
def afA(p d a g e f w):w.drawn<=(qC (stepG.exec p d a g e f w)).drawn:=by
 have b:=MA p a;have c:=aju p a;unfold stepG.exec;simp only[DT];generalize stepG.apply p a=i at b⊢;generalize stepG.oper p a=j at c⊢
 split
 all_goals first
  |exact bD _
  |exact b _ _ _ _ _
  |skip
 all_goals try simp only[Option.elim]
 all_goals repeat' (first|rw[Cb]|split)
 all_goals first
  |exact bD _
  |exact c _ _ _ _
  |exact b _ _ _ _ _
  | (have h:=jo ‹Sem.run _ _ _=Result.ok _ _›;exact h)
  | (have h:=mT ‹Sem.run _ _ _=Result.halt _ _›;exact h)
  | (rw[M7];have h:=jo ‹Sem.run _ _ _=Result.ok _ _›;exact h)
  | (have h:=jo ‹Sem.run _ _ _=Result.ok _ _›;exact bf h (b _ _ _ _ _))
def amx(p b g w a):w.drawn<=(qC (stepG p b g w a)).drawn:=by
 unfold stepG;simp only
 split
 .exact af1 _ _ _ _
 .exact afA _ _ _ _ _ _ _
 exact anV _ _ _ _ _ _
def AK(n:Nat)(s:Stepped):Prop:=∀m,s=.next m->n<=m.world.drawn
variable {c e:Machine}{f:Nat}
def mB(h:f<=c.world.drawn):AK f (.next c):=λ_ e=>by cases e;exact h
def nU{o}:AK f (.ended o b):=λ_ e=>by cases e
def ao0{a c}(h:waitingAt a c d=P b):d.drawn<=b.drawn:=by
 unfold waitingAt at h
 split at h
 .split at h
  .cases h;exact bD _
  cases h
 cases h;exact bD _
def aeE(p d j i g b a c w):AK w.drawn (communicate p d j i g b a c w).1:=by
 unfold communicate;simp only
 repeat' split
 all_goals first
  |exact nU
  |exact mB L9
  | (have h:=jo ‹Sem.run _ _ _=Result.ok _ _›;exact mB h)
  | (have h:=ao0 ‹waitingAt _ _ _=P _›;exact mB h)
  | (have e:=jo ‹Sem.run _ _ _=Result.ok _ _›;have f:=mT ‹Sem.run _ _ _=Result.halt _ _›;exact mB (bf e f))
  | (have e:=jo ‹Sem.run _ _ w=Result.ok _ _›;have f:=jo ‹Sem.run _ (choose _) _=Result.ok _ _›;exact mB (bf e f))
def OS(p b a w):AK w.drawn (look p b a w):=by
 unfold look;simp only
 repeat' split
 all_goals first
  |exact nU
  |exact mB L9
  | (have h:=jo ‹Sem.run _ _ w=Result.ok _ _›;exact mB h)
def am0(p m k):AK m.world.drawn (serve p m k):=by
 unfold serve;simp only
 repeat' split
 all_goals first
  |exact nU
  |exact mB L9
  | (have h:=jo ‹Sem.run _ _ _=Result.ok _ _›;exact mB h)
def af5(w c):(drain w c).2.drawn=w.drawn:=by
 unfold drain
 split<;>rfl
def Z7(m k t a b):(retime m k t a b).2.world.drawn=m.world.drawn:=by
 unfold retime;simp only
 split
 .exact af5 _ _
 rfl
def ajt(h:timerOp.opened c g=P e):c.world.drawn<=e.world.drawn:=by
 unfold timerOp.opened at h
 split at h
 .split at h
  .cases h;exact bD _
  cases h
 cases h;exact bD _
def ant{m}(v:timerOp c m=.ok (h,e)):c.world.drawn<=e.world.drawn:=by
 unfold timerOp timerOp.named at v
 repeat' split at v
 all_goals first
  | (cases v;done)
  | (cases v;exact bD _)
  | (have a:=gQ (λx=>(Prod.snd x).world.drawn) (Except.ok.inj v);simp only[Z7]at a;exact wR a)
  | (have b:=ajt ‹timerOp.opened _ _=P _›;have a:=gQ (λx=>(Prod.snd x).world.drawn) (Except.ok.inj v);simp only[Z7]at a;exact bf b (wR a))
def alL(p m i a):AK m.world.drawn (runT p m i a).1:=by
 unfold runT;simp only;have h:=amx p (i==0) (m.gs.swapAt! i { (default:Goroutine)with status:=.finished }).1 m.world a;generalize stepG p (i==0) _ m.world a=s at h⊢
 cases s with
 |ended o w f=>exact nU
 |comm g j b q w f=>exact λd e=>bf h (aeE _ _ _ _ _ _ _ _ _ d e)
 |go g w f=>exact mB h
 |spawn g c w f=>exact mB h
 |count g w f=>
  simp only
  split
  .exact nU
  exact mB h
 |alone g l w f=>exact mB h
 |collect g w f=>exact λd e=>bf h (OS _ _ _ _ d e)
 |watch g w f=>exact mB h
 |newcoro g c d w f=>exact mB h
 |coroswitch g c k w f=>
  simp only
  split
  .exact mB h
  .exact mB h
  exact nU
 |timer g n w f=>
  simp only
  split
  .rename_i e;exact mB (bf h (ant e))
  .exact mB h
  .exact nU
  exact nU
def CN(n:Nat)(v:Move):Prop:=match v with
 | .goroutine m _=>n<=m.world.drawn
 | .machine s _=>AK n s
def MH(p m):CN m.world.drawn (askOn p m):=by
 unfold askOn;simp only
 split
 .exact nU
 rename_i b;have b:=jo b
 split
 .exact λc e=>bf b (am0 p _ _ c e)
 split
 .split
  .exact mB b
  split
  .exact mB b
  split<;>exact nU
 split
 .split
  .exact nU
  rename_i e;have e:=bf b (jo e)
  split
  .exact e
  split
  .exact nU
  rename_i c;exact bf e (jo c)
 split
 .exact nU
 .rename_i a;have a:=bf b (jo a)
  split
  .exact nU
  rename_i e;have e:=bf a (jo e)
  split
  .exact e
  split
  .exact nU
  rename_i c;exact bf e (jo c)
 .rename_i a;have a:=bf b (jo a);exact mB a
 rename_i a;have a:=bf b (jo a)
 split
 .exact nU
 rename_i e;have e:=jo e;have e:=bf a e
 split
 .exact e
 split
 .exact nU
 rename_i c;exact bf e (jo c)
def CN.mono{b v}(h:CN b v)(c:f<=b):CN f v:=by
 cases v with
 |goroutine m i=>exact bf c h
 |machine s a=>exact λd e=>bf c (h d e)
def TJ(p m):CN m.world.drawn (ask p m):=by
 unfold ask
 split
 .split
  .exact nU
  .rename_i h;have h:=jo h
   split
   .rename_i a;exact(MH p _).mono (bf h (OS _ _ _ _ _ a))
   rename_i a;exact λb e=>bf h (OS _ _ _ _ _ e)
  rename_i h;exact(MH p _).mono (jo h)
 exact MH p m
def aiT(p m):CN m.world.drawn (move p m):=by
 unfold move
 split
 .split
  .exact bD _
  exact nU
 split
 .split
  .exact bD _
  exact TJ p _
 exact TJ p m
def amA(h:step a c=.next e):c.world.drawn<=e.world.drawn:=by
 have p:=aiT a c;unfold step stepT at h
 split at h
 .rename_i s i m;rw[m]at p;exact bf p (alL a s i _ e h)
 rename_i s i m;rw[m]at p;exact p e h
def aa8 :∀(n:Nat) {m p:Machine},runN a n m=.next p->m.world.drawn<=p.world.drawn
 | 0,m,p,h=>by rw[runN]at h;cases h;exact bD _
 |n+1,m,p,h=>by
  rw[runN]at h
  split at h
  .rename_i e b;exact bf (amA b) (aa8 n h)
  rename_i b;exact absurd h (λe=>b p e)
def aep{f p R}(h:Calls a f p b R):Calls a f p b λe w=>R e w/\(∀v,e=Vr v->b.drawn<=w.drawn):=λn=>by
 obtain⟨e,w,d,g,c,i⟩:=h n;refine⟨e,w,d,⟨g,λv n=>?_⟩,c,i⟩;subst n;obtain⟨n,v⟩:=c;exact aa8 n v
end
end Go.Proofs.YtldkpahaocjdpaaGreat
