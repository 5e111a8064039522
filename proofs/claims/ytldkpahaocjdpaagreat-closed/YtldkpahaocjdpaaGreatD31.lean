/-
  cmp.Compare over numbers, slices.Compare over rows of them, cmp.Or.
-/
import Derived.Test.YtldkpahaocjdpaaGreatD28
import Derived.Sort.LoopGhostIn
import Derived.StepT
set_option maxHeartbeats 16000000
set_option maxRecDepth 1000000
namespace Go.Proofs.YtldkpahaocjdpaaGreat
section
open Go.RowKit
def cO (l:List Nat):V8:=l.map λ (x:Nat)=>Value.int .i64 x
theorem z2d {w:W8}{base:Nat}{a:O8}{c:Nat}{xs:List Nat}(h:w.ownsRow base 3 1 (.slice a xs.length c) xs.length (cO xs))(k:Nat)(hk:k<xs.length):∃ g,a=some ⟨g,0,none⟩/\g<w.heap.size/\xs.length<=c/\c<=maxLen/\w.cell? ⟨g,k,none⟩=some (.int .i64 xs[k]):=by
 rcases h.2 with⟨_,h0⟩ | ⟨g,cap,cur,hv,hb,hg,dG,dx,eZ,ht⟩
 ·omega
 ·injection hv with h1 h2 h3
  subst h1 h3;refine⟨g,rfl,(Array.getElem?_eq_some_iff.1 hg).1,dG,dx,?_⟩;rw[h.cellAt k (by omega)];unfold cO;rw[List.getElem?_map,List.getElem?_eq_getElem hk];rfl
theorem zx2 (x:Int)(w:W8):Calls Tryz.prog 216 #[.int .i64 x] w λ e w'=>e=.returned (.bool false)/\w'=w:=by
 go_enter Tryz.func216,Tryz.ntmps216;go_wp2_with fail;go_ret;exact⟨by simp,rfl⟩
theorem zjh (x y:Nat)(w:W8):Calls Tryz.prog 161 #[.int .i64 x,.int .i64 y] w λ e w'=>e=.returned (.int .i64 (zm6 x y))/\w'=w:=by
 have hn:=zx2
 by_cases h1:x<y
 ·have HC:=zC (show zm6 x y=-1 by unfold zm6;rw[if_pos h1]);have hi:(x:Int)<y:=by omega
  clear h1;go_enter Tryz.func161,Tryz.ntmps161;go_wp2_with (go_at_call 216;refine (hn _ _).mono ?_;rintro e w' ⟨rfl,rfl⟩);go_ret;exact⟨by rw[zA HC];rfl,rfl⟩
 ·by_cases h2:y<x
  ·have HC:=zC (show zm6 x y=1 by unfold zm6;rw[if_neg h1,if_pos h2]);have hi:¬ (x:Int)<y:=(by omega);have hj:(y:Int)<x:=(by omega);clear h1 h2;go_enter Tryz.func161,Tryz.ntmps161;go_wp2_with (go_at_call 216;refine (hn _ _).mono ?_;rintro e w' ⟨rfl,rfl⟩);go_ret;exact⟨by rw[zA HC];rfl,rfl⟩
  ·have HC:=zC (show zm6 x y=0 by unfold zm6;rw[if_neg h1,if_neg h2]);have hi:¬ (x:Int)<y:=(by omega);have hj:¬ (y:Int)<x:=(by omega);clear h1 h2;go_enter Tryz.func161,Tryz.ntmps161;go_wp2_with (go_at_call 216;refine (hn _ _).mono ?_;rintro e w' ⟨rfl,rfl⟩);go_ret;exact⟨by rw[zA HC];rfl,rfl⟩
theorem z1t {x y:List Nat}{k:Nat}(hx:k<x.length)(hy:k<y.length):zpj (x.drop k) (y.drop k)=if zm6 x[k] y[k]=0 then zpj (x.drop (k+1)) (y.drop (k+1)) else zm6 x[k] y[k]:=by
 rw[List.drop_eq_getElem_cons hx,List.drop_eq_getElem_cons hy,zpj]
theorem zq5 (w:W8)(base base':Nat)(a b:O8)(c d:Nat)(x y:List Nat)(hx:w.ownsRow base 3 1 (.slice a x.length c) x.length (cO x))(hy:w.ownsRow base' 3 1 (.slice b y.length d) y.length (cO y)):
  Calls Tryz.prog 166 #[.slice a x.length c,.slice b y.length d] w λ e w'=>e=.returned (.int .i64 (zpj x y))/\w'=w:=by
 have HX:=zC hx;have HY:=zC hy;have m1:=vV hx;have m2:=vV hy;unfold maxLen at m1 m2;clear hx hy;go_enter Tryz.func166,Tryz.ntmps166;go_wp2_with fail
 go_loop [11] (λ i=>∃ k:Nat,k<=x.length/\k<=y.length/\i=.int .i64 k/\zpj (x.drop k) (y.drop k)=zpj x y) (λ i=>x.length-(intOf i).toNat)
 exact⟨0,Nat.zero_le _,Nat.zero_le _,rfl,rfl⟩
 case round=>
  obtain⟨k,hk,cN,rfl,bj⟩:=hrel;have HF:=zC bj;clear bj
  by_cases aN:k<x.length
  ·obtain⟨g,rfl,nB,dG,dx,hc⟩:=z2d (zA HX) k aN;have gW:(k:Int)<x.length:=by omega
   by_cases lG:k<y.length
   ·obtain⟨g2,rfl,dd,JP,Je,nA⟩:=z2d (zA HY) k lG;have CJ:(k:Int)<y.length:=(by omega);have HS:=zC (z1t aN lG);have HC:=zC (λ w=>zjh x[k] y[k] w);generalize x[k]=xk at *;generalize y[k]=yk at *
    by_cases h0:zm6 xk yk=0
    ·have HE:=zC (show zpj (x.drop (k+1)) (y.drop (k+1))=zpj x y by rw[<-zA HF,zA HS,if_pos h0]);rw[h0] at HC;clear h0;go_wp2_with (go_at_call 161;refine (zA HC _).mono ?_;rintro e w' ⟨rfl,rfl⟩)
     go_round
     case rel=>exact⟨k+1,by omega,by omega,by go_num,zA HE⟩
     case measure=>simp[intOf];omega
    ·have HE:=zC (show zpj x y=zm6 xk yk by rw[<-zA HF,zA HS,if_neg h0]);generalize zm6 xk yk=r at *;go_wp2_with (go_at_call 161;refine (zA HC _).mono ?_;rintro e w' ⟨rfl,rfl⟩);go_ret;exact⟨by rw[zA HE];rfl,rfl⟩
   ·have CJ:¬ (k:Int)<y.length:=(by omega);have hle:(y.length:Int)<=k:=(by omega);have HE:=zC (show zpj x y=1 by rw[<-zA HF,List.drop_eq_getElem_cons aN,List.drop_of_length_le (l:=y) (by omega)];rfl);go_wp2_with fail;go_ret;exact⟨by rw[zA HE];rfl,rfl⟩
  ·have gW:¬ (k:Int)<x.length:=by omega
   by_cases lG:x.length<y.length
   ·have qj:(x.length:Int)<y.length:=(by omega);have HE:=zC (show zpj x y=-1 by rw[<-zA HF,List.drop_of_length_le (l:=x) (by omega),List.drop_eq_getElem_cons (l:=y) (by omega)];rfl);go_wp2_with fail;go_ret;exact⟨by rw[zA HE];rfl,rfl⟩
   ·have qj:¬ (x.length:Int)<y.length:=(by omega);have HE:=zC (show zpj x y=0 by rw[<-zA HF,List.drop_of_length_le (l:=x) (by omega),List.drop_of_length_le (l:=y) (by omega)];rfl);go_wp2_with fail;go_ret;exact⟨by rw[zA HE];rfl,rfl⟩
def orC (a b c:Int):Int:=if a≠0 then a else if b≠0 then b else c
theorem ya0 (w:W8)(g:Nat)(a b c:Int)(h:w.heap[g]?=some (.cells #[.int .i64 a,.int .i64 b,.int .i64 c] 3 (0,0))):
  Calls Tryz.prog 160 #[.slice (some ⟨g,0,none⟩) 3 3] w λ e w'=>e=.returned (.int .i64 (orC a b c))/\w'=w:=by
 have c0:=(zB h 0).1;have c1:=(zB h 1).1;have c2:=(zB h 2).1;simp only[List.getElem?_toArray,List.getElem?_cons_zero,List.getElem?_cons_succ] at c0 c1 c2;have hg:=(Array.getElem?_eq_some_iff.1 h).1;clear h;go_enter Tryz.func160,Tryz.ntmps160;go_wp2_with fail
 go_loop [8] (λ i=>∃ k:Nat,k<=3/\i=.int .i64 k/\(0<k->a=0)/\(1<k->b=0)/\(2<k->c=0)) (λ i=>3-(intOf i).toNat)
 exact⟨0,by omega,rfl,by omega,by omega,by omega⟩
 case round=>
  obtain⟨k,hk,rfl,h0,h1,h2⟩:=hrel
  match k,hk with
  | 0,_=>
   clear h0 h1 h2
   by_cases ha:a=0
   ·go_wp2_with fail
    go_round
    case rel=>exact⟨1,by omega,by go_num,λ _=>ha,by omega,by omega⟩
    case measure=>simp[intOf]
   ·have HE:=zC (show orC a b c=a by unfold orC;rw[if_pos ha]);go_wp2_with fail;go_ret;exact⟨by rw[zA HE];rfl,rfl⟩
  | 1,_=>
   have ha:=h0 (by omega);have HA:=zC ha;clear h0 h1 h2 ha
   by_cases hb:b=0
   ·go_wp2_with fail
    go_round
    case rel=>exact⟨2,by omega,by go_num,λ _=>zA HA,λ _=>hb,by omega⟩
    case measure=>simp[intOf]
   ·have HE:=zC (show orC a b c=b by unfold orC;rw[if_neg (by simp[zA HA]),if_pos hb]);go_wp2_with fail;go_ret;exact⟨by rw[zA HE];rfl,rfl⟩
  | 2,_=>
   have HA:=zC (h0 (by omega));have HB:=zC (h1 (by omega));clear h0 h1 h2
   by_cases hc:c=0
   ·go_wp2_with fail
    go_round
    case rel=>exact⟨3,by omega,by go_num,λ _=>zA HA,λ _=>zA HB,λ _=>hc⟩
    case measure=>simp[intOf]
   ·have HE:=zC (show orC a b c=c by unfold orC;rw[if_neg (by simp[zA HA]),if_neg (by simp[zA HB])]);go_wp2_with fail;go_ret;exact⟨by rw[zA HE];rfl,rfl⟩
  | 3,_=>
   have HE:=zC (show orC a b c=0 by unfold orC;rw[if_neg (by simp[h0]),if_neg (by simp[h1])];exact h2 (by omega));clear h0 h1 h2;go_wp2_with fail;go_ret;exact⟨by rw[zA HE];rfl,rfl⟩
end
section
open Go.RowKit
def zbw (n:Nat)(f:Nat->Value):Array Value:=((List.range n).map f).toArray
theorem j2 (n:Nat)(f:Nat->Value):(zbw n f).size=n:=by simp[zbw]
variable {i n:Nat} {f:Nat->Value}
theorem zcy (h:i<n):(zbw n f)[i]?=some (f i):=by
 simp[zbw,h]
theorem zk3 (n:Nat)(z:Value):madeCells #[z] n=zbw n (λ _=>z):=by
 apply Array.ext_getElem?;intro i
 by_cases h:i<n
 ·rw[z6n z n i h,zcy h]
 ·rw[Array.getElem?_eq_none (by simp[madeCells];omega),Array.getElem?_eq_none (by rw[j2];omega)]
variable {v:Value}
theorem zxs:(zbw n f).setIfInBounds i v=zbw n (λ j=>if j=i then v else f j):=by
 apply Array.ext_getElem?;intro j;rw[Array.getElem?_setIfInBounds]
 by_cases h:j<n
 ·rw[zcy h,zcy h]
  split
  ·rename_i e;subst e;rw[if_pos (by rw[j2];exact h),if_pos rfl]
  ·rename_i e;rw[if_neg (λ e'=>e e'.symm)]
 ·rw[Array.getElem?_eq_none (xs:=zbw n f) (by rw[j2];omega),Array.getElem?_eq_none (by rw[j2];omega)]
  split
  ·rename_i e;subst e;rw[if_neg (by rw[j2];exact h)]
  ·rfl
variable {g:Nat->Value}
theorem z02 (h:∀ i,i<n->f i=g i):zbw n f=zbw n g:=by
 unfold zbw;rw[List.map_congr_left λ i hi=>h i (List.mem_range.1 hi)]
def aG (w:W8)(b:Nat)(T:TypeId)(n:Nat)(f:Nat->Value):Prop:=w.heap[b]?=some (.cells (zbw n f) T (0,0))
theorem aG.start (w:W8)(T:TypeId)(n:Nat)(z:Value):aG (w.alloc (.cells (madeCells #[z] n) T)) w.heap.size T n (λ _=>z):=by
 unfold aG;rw[<-zk3];exact heap_alloc_new w _
variable {T:TypeId} {b:Nat} {w:W8}
theorem aG.set (h:aG w b T n f)(i:Nat)(v:Value):aG (w.setCell ⟨b,i,none⟩ v) b T n (λ j=>if j=i then v else f j):=by
 unfold aG;rw[setCell_eq_setRow w b i _ T (0,0) v h,<-zxs];exact setRow_heap _ _ _ _ _ _ h
theorem aG.cell (h:aG w b T n f)(hi:i<n):w.cell? ⟨b,i,none⟩=some (f i):=by
 rw[(zB h i).1,zcy hi]
theorem aG.fz (h:aG w b T n f)(i:Nat):w.frozen? ⟨b,i,none⟩=false:=(zB h i).2
theorem aG.lt (h:aG w b T n f):b<w.heap.size:=(Array.getElem?_eq_some_iff.1 h).1
theorem aG.eq (h:aG w b T n f)(e:∀ i,i<n->f i=g i):aG w b T n g:=by
 unfold aG at h ⊢;rw[h,z02 e]
variable {w':W8}
theorem aG.block (h:aG w b T n f)(e:w'.heap[b]?=w.heap[b]?):aG w' b T n f:=e.trans h
theorem aG.below (h:aG w b T n f)(k:Below w.heap.size w w'):aG w' b T n f:=(k.block b h.lt).trans h
theorem aG.cO {w:W8}{b n:Nat}{g:Nat->Nat}(h:aG w b 3 n (λ i=>.int .i64 (g i:Nat)))(hn:n<=maxLen){base:Nat}(hb:base<=b):w.ownsRow base 3 1 (.slice (some ⟨b,0,none⟩) n n) n (cO ((List.range n).map g)):=by
 refine⟨by simp[Go.Proofs.YtldkpahaocjdpaaGreat.cO],.inr ⟨b,n,_,rfl,hb,h,Nat.le_refl _,hn,by rw[j2];omega,?_⟩⟩;simp only[zbw,Go.Proofs.YtldkpahaocjdpaaGreat.cO,List.map_map,Nat.mul_one];rw[List.take_of_length_le (by simp)];rfl
variable {row:Option Nat} {A B:W8}
theorem zkv {cs:Array Value}{t:TypeId}{fr:Nat × Nat}(h:A.heap[b]?=some (.cells cs t fr))(hg:A.grownBy B row)(hr:∀ i,row=some i->∃ o:Obj,A.heap[i]?=some o/\o.isCells=false):B.heap[b]?=some (.cells cs t fr):=
 (hg.block b (Array.getElem?_eq_some_iff.1 h).1 (λ e=>by obtain⟨o,ho,hc⟩:=hr b e.symm;rw[h] at ho;cases ho;cases hc)).trans h
theorem zr1 {base:Nat}{e:TypeId}{size:Nat}{xs:V8}(h:A.ownsRow base e size v n xs)(hg:A.grownBy B row)(hr:∀ i,row=some i->∃ o:Obj,A.heap[i]?=some o/\o.isCells=false):B.ownsRow base e size v n xs:=by
 refine zP h λ g jo=>?_
 rcases h.2 with⟨h0,_⟩ | ⟨g',cap,cur,rfl,hb,dn,_⟩
 ·rw[h0] at jo;cases jo
 ·have e:g'=g:=by simpa[Value.ownBlock] using jo
  subst e;rw[zkv dn hg hr,dn]
theorem jQ.setCell {No:Nat->Prop}{a:W8}(h:jQ No a w){j:Nat}(hb:a.heap.size<=b\/No b)(v:Value):jQ No a (w.setCell ⟨b,j,none⟩ v):=
 ⟨h.os,h.tape,h.output,by simpa using h.size,λ i o hi hn ho=>by
  have h1:=h.same i o hi hn ho;have bG:i≠b:=λ e=>by
   subst e;rcases hb with hb | hb
   ·have:=(Array.getElem?_eq_some_iff.1 hi).1;omega
   ·exact hn hb
  rw[Below.heap_setCell _ _ _ _ (by simpa using bG)]
  exact h1⟩
end
section
open Go.RowKit
structure Pl where
 t:Th
 s:Nat
 h:Nat
instance:Inhabited Pl:=⟨⟨({ data:=#[] },[]),0,0⟩⟩
def aB (p:Pl):V8:=[.string p.t.p,.string (xF p.t.ts 0),.string (xF p.t.ts 1),.string (xF p.t.ts 2),.string (xF p.t.ts 3),.int .i64 p.s,.int .i64 p.h]
def plV (p:Pl):Value:=.agg (aB p).toArray
theorem zwk (p:Pl):(aB p).length=7:=rfl
theorem zr6 (p:Pl):∀ v∈aB p,v.oneCell'=true:=by
 intro v hv;simp[aB] at hv;rcases hv with rfl | rfl | rfl | rfl | rfl | rfl | rfl <;> rfl
def zbi (p q:Pl):Bool:=decide (p.s<q.s)||(decide (p.s=q.s)&&decide (p.h<q.h))
theorem z4h (w:W8)(p q:Pl):
  Calls Tryz.prog 163 #[plV p,plV q] w λ e w'=>e=.returned (.bool (zbi p q))/\Below w.heap.size w w':=by
 have b0:=((Below.refl w.heap.size w).alloc L9 (.cells (aB p).toArray 148)).alloc (by simp) (.cells (aB q).toArray 148);have gd:=zC b0;clear b0;unfold plV
 by_cases h1:p.s<q.s
 ·have HE:=zC (show zbi p q=true by unfold zbi;simp[h1]);have hi:(p.s:Int)<q.s:=by omega
  clear h1;unfold aB at gd ⊢;go_enter Tryz.func163,Tryz.ntmps163;go_wp2_with fail;go_ret;exact⟨by rw[zA HE];rfl,zA gd⟩
 ·by_cases h2:p.s=q.s
  ·have HE:=zC (show zbi p q=decide (p.h<q.h) by unfold zbi;simp[h2]);have hi:¬ (p.s:Int)<q.s:=(by omega);clear h1;unfold aB at gd ⊢;rw[h2] at hi gd ⊢;clear h2;go_enter Tryz.func163,Tryz.ntmps163;go_wp2_with fail
   all_goals go_ret
   all_goals exact⟨by rw[zA HE];simp,zA gd⟩
  ·have HE:=zC (show zbi p q=false by unfold zbi;simp[h1,h2]);have hi:¬ (p.s:Int)<q.s:=(by omega);have hj:¬ (p.s:Int)=q.s:=(by omega);clear h1 h2;unfold aB at gd ⊢;go_enter Tryz.func163,Tryz.ntmps163;go_wp2_with fail;go_ret;exact⟨by rw[zA HE];rfl,zA gd⟩
end
section
open Go.RowKit Go.Maps
def zan (n m:Nat):List (Fin n):=((List.finRange n).drop m).reverse
theorem Nb (n:Nat):zan n n=[]:=by unfold zan;rw[List.drop_of_length_le (by simp)];rfl
theorem zif {n m:Nat}(h:m<n):zan n m=zan n (m+1)++[⟨m,h⟩]:=by
 unfold zan;rw[List.drop_eq_getElem_cons (by simpa using h),List.reverse_cons];simp
theorem z0j (n m:Nat):(zan n m).length=n-m:=by unfold zan;simp
theorem z5s (w:W8)(a:O8)(n c:Nat):
  Calls Tryz.prog 68 #[.slice a n c] w λ e w'=>e=.returned (.func (.func 107) #[] #[.pointer (some ⟨w.heap.size,0,none⟩)])/\w'=w.alloc (.cells #[.slice a n c] 141):=by
 go_enter Tryz.func68,Tryz.ntmps68;go_wp2_with fail;go_ret;exact⟨rfl,rfl⟩
theorem zxb (No:Nat->Prop)(n:Nat)(w:W8)(sb bo:Nat)(ao:O8)(co:Nat)(O:List Pl)(hs:w.heap[sb]?=some (.cells #[.slice ao O.length co] 141 (0,0)))(ho:w.ownsRow bo 148 7 (.slice ao O.length co) O.length (O.flatMap aB))(lH:¬ No sb)(FN:∀ g,(Value.slice ao O.length co).ownBlock=some g->¬ No g)(hl:O.length<=1000):
  SeqStopsK Fence.wide n Tryz.prog 107 #[.pointer (some ⟨sb,0,none⟩)] (λ x:Fin O.length=>#[.int .i64 (x.1:Nat),plV O[x]]) (jQ No) (λ xs=>xs=zan O.length 0) (λ _=>True) O.length w:=by
 intro l J Jx W hW hJ hJx hY h0;have js:=(hW.block sb (Array.getElem?_eq_some_iff.1 hs).1).trans hs;have za:=zG ho hW (λ g e=>(ho.lt g e).2);have c0:=(zB js 0).1;simp only[List.getElem?_toArray,List.getElem?_cons_zero] at c0;have HS:=zC js;have HO:=zC za;have HY:=zC hY;have H0:=zC h0;have vu:=zC lH;have Hr:=zC FN;clear hs ho hY h0 lH FN hW hJ hJx js za;refine callsIn_wide.2 ?_;go_enter Tryz.func107,Tryz.ntmps107;go_upto_region 1 with fail;refine (wpIn_wide (n:=2)).1 ?_
 gi_loopg [3] O.length (λ gg i wr=>∃ m:Nat,m<=O.length/\gg=m/\i=.int .i64 ((m:Int)-1)/\J (zan O.length m) wr/\jQ No W wr)
 exact⟨O.length,Nat.le_refl _,rfl,rfl,by rw[Nb];exact zA H0,jQ.refl _ _⟩
 case round=>
  clear H0 c0;obtain⟨m,hm,hgm,rfl,hj,hk⟩:=hrel;have HJ:=zC hj;have HK:=zC hk;have c0:=(zB (hk.cells (zA HS) (zA vu)) 0).1;simp only[List.getElem?_toArray,List.getElem?_cons_zero] at c0;have aE:=hk.row (zA HO) (zA Hr);clear hj hk
  cases m with
  | zero=>
   have hz:¬ (0:Int)<=((0:Nat):Int)-1:=(by omega);clear aE c0
   gi_wp2
   go_end0;exact⟨⟨_,rfl⟩,.inl (zA HJ)⟩
  | succ q=>
   have hq:q<O.length:=(by omega);rw[show (((q+1:Nat):Int)-1)=(q:Int) by omega];obtain⟨g,cap,hv,iC,dp,dG,dx,hc⟩:=vL zwk aE q hq;injection hv with h1 h2 h3
   subst h1 h3;have d0:wr.cell? ⟨g,q*7,none⟩=some (.string O[q].t.p):=hc 0 (by omega);have d1:wr.cell? ⟨g,q*7+1,none⟩=some (.string (xF O[q].t.ts 0)):=hc 1 (by omega);have d2:wr.cell? ⟨g,q*7+2,none⟩=some (.string (xF O[q].t.ts 1)):=hc 2 (by omega);have d3:wr.cell? ⟨g,q*7+3,none⟩=some (.string (xF O[q].t.ts 2)):=hc 3 (by omega);have d4:wr.cell? ⟨g,q*7+4,none⟩=some (.string (xF O[q].t.ts 3)):=hc 4 (by omega);have d5:wr.cell? ⟨g,q*7+5,none⟩=some (.int .i64 O[q].s):=hc 5 (by omega);have d6:wr.cell? ⟨g,q*7+6,none⟩=some (.int .i64 O[q].h):=hc 6 (by omega);have AE:(q:Int)<O.length:=(by omega);have FX:(0:Int)<=q:=(by omega);obtain⟨fn,tmps,assign,body,hy,hR⟩:=zs9 (m':=1) (zA HY (zan O.length (q+1)) ⟨q,hq⟩ wr (zA HJ) (by rw[z0j];omega));clear hc aE h2;have I4:(Instr.yield l #[.int .i64 (q:Nat),.agg #[.string O[q].t.p,.string (xF O[q].t.ts 0),.string (xF O[q].t.ts 1),.string (xF O[q].t.ts 2),.string (xF O[q].t.ts 3),.int .i64 O[q].s,.int .i64 O[q].h]]).run Tryz.prog wr=.ok (.round l fn tmps assign body) wr:=hy;clear hy
   gi_wp2_with (refine hR.mono ?_;rintro en w5 (⟨rfl,h5,h6⟩ | ⟨rfl,h5⟩) <;> (have H5:=zC h5;clear h5 hR I4))
   ·have H6:=zC h6;clear h6
    gi_roundg q
    case measure=>omega
    case rel=>
     refine⟨q,by omega,rfl,by go_num,?_,(zA HK).trans (zA H6)⟩;rw[zif hq];exact zA H5
   ·refine bodyPost_ret (v:=.tuple #[]) (results_none Tryz.results107 _ _ _) rfl ?_;exact⟨⟨_,rfl⟩,.inr ⟨_,trivial,zA H5⟩⟩
end
section
theorem zkr {α:Type}:∀ (k:Ask α) (w:W8),w.drawn<=(w.ask k).2.drawn
 | .done a,w=>Nat.le_refl _
 | .ask what range k,w=>by
  rw[World.ask]
  split
  ·exact zkr (k 0) w
  ·exact Nat.le_trans (Nat.le_succ _) (zkr (k _) { w with drawn:=w.drawn+1 })
theorem zsv (w:W8)(c:Sys):w.drawn<=(w.sys c).2.drawn:=by
 have h:=zkr (Kernel.perform c w.os) w;unfold World.sys
 split
 ·exact Nat.le_refl _
 ·rename_i h1;rw[h1] at h;exact h
def z9f {α:Type}:Result α->W8
 | .ok _ w=>w
 | .halt _ w=>w
variable {v:Value} {a:Addr} {w w':W8} {p:Program}
theorem zmw {b:Bool}{l:List Addr}(h:w.farStore p a v b=.ok (w',l)):w'.drawn=w.drawn:=by
 unfold World.farStore at h
 split at h
 ·split at h
  ·rename_i h1
   cases h
   simp only[World.viewStore,bind,Except.bind,pure,Except.pure] at h1
   repeat' split at h1
   all_goals first | (cases h1;done) | (cases h1;rfl) | skip
  ·cases h
 ·cases h
theorem zsn {α:Type}(p:Program):∀ (m:Sem α) (w:W8),w.drawn<=(z9f (m.run p w)).drawn:=by
 intro m
 induction m with
 | pure a=>intro w;exact Nat.le_refl _
 | load m a k ih=>
  intro w;rw[Sem.run]
  split
  ·exact ih _ w
  ·split
   ·exact ih _ w
   ·exact Nat.le_refl _
 | store m a v k ih=>
  intro w
  have key:w.drawn<=(z9f (match w.cell? a with
   | some _ => if w.frozen? a then .halt (.unsupported (.unsafePointer "a write to bytes that a string shares")) w else k.run p (w.setCell a v)
   | none=>match w.farStore p a v (m==.atomic) with
    | .ok (w,_)=>k.run p w
    | .error h=>.halt h w)).drawn:=by
   split
   ·split
    ·exact Nat.le_refl _
    ·exact ih (w.setCell a v)
   ·split
    ·rename_i h1;have:=zmw h1;exact Nat.le_trans (Nat.le_of_eq this.symm) (ih _)
    ·exact Nat.le_refl _
  cases v <;> first | exact Nat.le_refl _ | exact key
 | new o k ih=>intro w;exact ih _ { w with heap:=w.heap.push o }
 | shape r k ih=>intro w;exact ih _ w
 | freeze a n k ih=>
  intro w;have:(w.freeze a n).drawn=w.drawn:=by unfold World.freeze;split <;> rfl
  exact Nat.le_trans (Nat.le_of_eq this.symm) (ih (w.freeze a n))
 | frozen a k ih=>intro w;exact ih _ w
 | getObj r k ih=>
  intro w;rw[Sem.run]
  split
  ·exact Nat.le_refl _
  ·exact ih _ w
  ·exact Nat.le_refl _
 | setObj r o k ih=>
  intro w;rw[Sem.run]
  split
  ·exact Nat.le_refl _
  ·exact ih { w with heap:=w.heap.setIfInBounds r o }
  ·exact Nat.le_refl _
 | choose q k ih=>
  intro w;rw[Sem.run]
  split
  ·exact ih _ w
  ·exact Nat.le_trans (Nat.le_succ _) (ih _ { w with drawn:=w.drawn+1 })
 | sys c k ih=>intro w;exact Nat.le_trans (zsv w c) (ih _ (w.sys c).2)
 | program k ih=>intro w;exact ih _ w
 | mark m k ih=>intro w;exact ih w
 | halt h=>intro w;exact Nat.le_refl _
theorem xO {α:Type}{m:Sem α}{a:α}(h:m.run p w=.ok a w'):w.drawn<=w'.drawn:=by
 have:=zsn p m w;rw[h] at this;exact this
theorem xL {α:Type}{m:Sem α}{x:Halt}(h:m.run p w=.halt x w'):w.drawn<=w'.drawn:=by
 have:=zsn p m w;rw[h] at this;exact this
def zbx:GStep->W8
 | .go _ w _=>w
 | .comm _ _ _ _ w _=>w
 | .spawn _ _ w _=>w
 | .count _ w _=>w
 | .timer _ _ w _=>w
 | .alone _ _ w _=>w
 | .newcoro _ _ _ w _=>w
 | .coroswitch _ _ _ w _=>w
 | .collect _ w _=>w
 | .watch _ w _=>w
 | .ended _ w _=>w
theorem qV (es:Array Event)(s:GStep):zbx (s.after es)=zbx s:=by cases s <;> rfl
theorem zcx (p:Program)(fr:Frame)(v:Value)(w:W8):zbx (endPrinting p fr v w)=w:=by
 unfold endPrinting;simp only
 repeat' split
 all_goals rfl
theorem zo6 (w:W8)(fd:Nat)(t:B8)(o:Outcome):w.drawn<=(zbx (endWith w fd t o)).drawn:=by
 have h:=zsv w (.write fd t);unfold endWith;simp only
 split
 ·rename_i h1;rw[h1] at h;split <;> exact h
 ·rename_i h1;rw[h1] at h;exact h
 ·rename_i h1;rw[h1] at h;exact h
theorem zgc (p:Program)(fr:Frame)(cs:List Frame)(d:Option Dying)(m:String)(w:W8):w.drawn<=(zbx (endFatal p fr cs d m w)).drawn:=by
 unfold endFatal;simp only
 split
 ·rename_i h;exact xO h
 ·rename_i h;exact xL h
 ·rename_i h;exact xL h
theorem zqa (p:Program)(fr:Frame)(d:Dying)(f:Fatal)(w:W8):w.drawn<=(zbx (writeOn p fr d f w)).drawn:=by
 unfold writeOn;simp only[Sem.runT_eq]
 split
 ·exact Nat.le_refl _
 ·split
  ·rename_i h;exact xO (Prod.mk.inj h).1
  ·rename_i h;exact xL (Prod.mk.inj h).1
  ·rename_i h;exact xL (Prod.mk.inj h).1
  ·rename_i h;exact xL (Prod.mk.inj h).1
theorem z0u (p:Program)(fr:Frame)(d:Dying)(w:W8):w.drawn<=(zbx (die p fr d w)).drawn:=by
 unfold die;simp only[Sem.runT_eq]
 split
 ·exact zqa _ _ _ _ _
 ·split
  ·split
   ·exact Nat.le_refl _
   ·exact zo6 _ _ _ _
  ·split
   ·exact Nat.le_refl _
   ·split
    ·rename_i h;exact xO h
    ·rename_i h;exact xL h
   ·rw[qV]
    split
    ·rename_i h;exact xO h
    ·rename_i h;exact xO h
    ·rename_i h;exact xL h
    ·rename_i h;rw[zcx];exact xL h
    ·exact Nat.le_refl _
   ·exact Nat.le_refl _
theorem ztr (p:Program)(fr:Frame)(cs:List Frame)(d:Option Dying)(g:Nat)(w:W8):w.drawn<=(zbx (early p fr cs d g w)).drawn:=by
 unfold early;simp only
 repeat' split
 all_goals first | exact Nat.le_refl _ | (have h:=xO ‹Sem.run _ _ _=Result.ok _ _›;exact h) | (have h:=xL ‹Sem.run _ _ _=Result.halt _ _›;exact h)
theorem zcl (p:Program)(b:Bool)(fr:Frame)(cs:List Frame)(d:Option Dying)(v:Value)(w:W8):zbx (doReturn p b fr cs d v w)=w:=by
 unfold doReturn
 repeat' split
 all_goals rfl
theorem zhg (p:Program)(fr:Frame)(cs:List Frame)(dy:Option Dying)(d:Deferred)(w:W8):w.drawn<=(zbx (callDeferred p fr cs dy d w)).drawn:=by
 unfold callDeferred;simp only[Sem.runT_eq];generalize (_&&_:Bool)=c
 split
 ·exact Nat.le_refl _
 ·rw[qV]
  split
  all_goals rename_i h
  all_goals first
   | exact xO h
   | exact xL h
   | exact Nat.le_trans (xL h) (zgc _ _ _ _ _ _)
   | (split <;> exact xO h)
theorem zs2 (p:Program)(b:Bool)(fr:Frame)(cs:List Frame)(dy:Option Dying)(w:W8):w.drawn<=(zbx (unwind p b fr cs dy w)).drawn:=by
 unfold unwind;simp only[Sem.runT_eq]
 split
 ·rw[qV]
  split
  ·rename_i h;exact xO h
  ·rename_i h;exact xL h
 ·exact zhg _ _ _ _ _ _
 ·split
  ·exact Nat.le_refl _
  ·split
   ·exact Nat.le_refl _
   ·split
    ·exact Nat.le_refl _
    ·split
     ·split
      ·exact Nat.le_refl _
      ·split
       ·rename_i h;exact xO h
       ·rename_i h;exact xL h
       ·rename_i h;exact xL h
     ·split
      ·rw[zcx];exact Nat.le_refl _
      ·exact Nat.le_refl _
  ·split
   ·rw[zcl];exact Nat.le_refl _
   ·rw[qV]
    split
    ·rename_i h;rw[zcl];exact xO h
    ·rename_i h;exact xL h
    ·rename_i h;exact xL h
theorem zgn (p:Program)(listen:Bool)(fr:Frame)(cs:List Frame)(dy:Option Dying)(m:Sem Next)(w:W8):w.drawn<=(zbx (stepG.apply p listen fr cs dy m w)).drawn:=by
 have e:(if listen=true then m.runT p w #[] else (m.run p w,#[])).1=m.run p w:=by split <;> simp
 unfold stepG.apply;simp only;generalize (if listen=true then m.runT p w #[] else (m.run p w,#[]))=r at e ⊢;obtain⟨r,es⟩:=r;simp only at e;subst e;simp only;rw[qV]
 split
 all_goals rename_i h
 all_goals first
  | exact xO h
  | exact xL h
  | exact Nat.le_trans (xL h) (zgc _ _ _ _ _ _)
  | exact Nat.le_trans (xL h) (ztr _ _ _ _ _ _)
  | ((repeat' split);all_goals exact xO h)
theorem zyf (p:Program)(listen:Bool)(fr:Frame)(cs:List Frame)(dy:Option Dying)(w:W8):w.drawn<=(zbx (stepG.oper p listen fr cs dy w)).drawn:=by
 unfold stepG.oper
 split
 ·exact Nat.le_refl _
 ·split
  ·exact zgn _ _ _ _ _ _ _
  ·exact zgn _ _ _ _ _ _ _
theorem zxr (p:Program)(main listen:Bool)(fr:Frame)(cs:List Frame)(dy:Option Dying)(w:W8):w.drawn<=(zbx (stepG.exec p main listen fr cs dy w)).drawn:=by
 have nx:=zgn p listen;have bV:=zyf p listen;unfold stepG.exec;simp only[Sem.runT_eq];generalize stepG.apply p listen=ap at nx ⊢;generalize stepG.oper p listen=op at bV ⊢
 split
 all_goals first
  | exact Nat.le_refl _
  | exact nx _ _ _ _ _
  | skip
 all_goals try simp only[Option.elim]
 all_goals repeat' (first | rw[qV] | split)
 all_goals first
  | exact Nat.le_refl _
  | exact bV _ _ _ _
  | exact nx _ _ _ _ _
  | (have h:=xO ‹Sem.run _ _ _=Result.ok _ _›;exact h)
  | (have h:=xL ‹Sem.run _ _ _=Result.halt _ _›;exact h)
  | (rw[zcl];have h:=xO ‹Sem.run _ _ _=Result.ok _ _›;exact h)
  | (have h:=xO ‹Sem.run _ _ _=Result.ok _ _›;exact Nat.le_trans h (nx _ _ _ _ _))
theorem zus (p:Program)(main:Bool)(g:Goroutine)(w:W8)(listen:Bool):w.drawn<=(zbx (stepG p main g w listen)).drawn:=by
 unfold stepG;simp only
 split
 ·exact z0u _ _ _ _
 ·exact zxr _ _ _ _ _ _ _
 ·exact zs2 _ _ _ _ _ _
def sOk (n:Nat)(s:Stepped):Prop:=∀ m,s=.next m->n<=m.world.drawn
variable {m:Machine} {n:Nat}
theorem xI (h:n<=m.world.drawn):sOk n (.next m):=λ _ e=>by cases e;exact h
theorem xC {o:Outcome}:sOk n (.ended o w):=λ _ e=>by cases e
theorem zmk {rest:Rest}{cs:Array CommCase}(h:waitingAt rest cs w=some w'):w.drawn<=w'.drawn:=by
 unfold waitingAt at h
 split at h
 ·split at h
  ·cases h;exact Nat.le_refl _
  ·cases h
 ·cases h;exact Nat.le_refl _
theorem zih (p:Program)(rest:Rest)(gs:Array Goroutine)(i:Nat)(g:Goroutine)(tS:Array CommCase)(oH:Bool)(shape:CommShape)(w:W8):sOk w.drawn (communicate p rest gs i g tS oH shape w).1:=by
 unfold communicate;simp only
 repeat' split
 all_goals first
  | exact xC
  | exact xI L9
  | (have h:=xO ‹Sem.run _ _ _=Result.ok _ _›;exact xI h)
  | (have h:=zmk ‹waitingAt _ _ _=some _›;exact xI h)
  | (have h1:=xO ‹Sem.run _ _ _=Result.ok _ _›;have h2:=xL ‹Sem.run _ _ _=Result.halt _ _›;exact xI (Nat.le_trans h1 h2))
  | (have h1:=xO ‹Sem.run _ _ w=Result.ok _ _›;have h2:=xO ‹Sem.run _ (choose _) _=Result.ok _ _›;exact xI (Nat.le_trans h1 h2))
theorem zio (p:Program)(gs:Array Goroutine)(rest:Rest)(w:W8):sOk w.drawn (look p gs rest w):=by
 unfold look;simp only
 repeat' split
 all_goals first
  | exact xC
  | exact xI L9
  | (have h:=xO ‹Sem.run _ _ w=Result.ok _ _›;exact xI h)
theorem zuq (p:Program)(m:Machine)(k:Nat):sOk m.world.drawn (serve p m k):=by
 unfold serve;simp only
 repeat' split
 all_goals first
  | exact xC
  | exact xI L9
  | (have h:=xO ‹Sem.run _ _ _=Result.ok _ _›;exact xI h)
theorem ztq (w:W8)(c:Nat):(drain w c).2.drawn=w.drawn:=by
 unfold drain
 split <;> rfl
theorem zjt (m:Machine)(k:Nat)(t:Timer)(a b:Nat):(retime m k t a b).2.world.drawn=m.world.drawn:=by
 unfold retime;simp only
 split
 ·exact ztq _ _
 ·rfl
variable {m':Machine}
theorem zr0 (h:timerOp.opened m a=some m'):m.world.drawn<=m'.world.drawn:=by
 unfold timerOp.opened at h
 split at h
 ·split at h
  ·cases h;exact Nat.le_refl _
  ·cases h
 ·cases h;exact Nat.le_refl _
theorem zp7 {op:TimerOp}(h:timerOp m op=.ok (v,m')):m.world.drawn<=m'.world.drawn:=by
 unfold timerOp timerOp.named at h
 repeat' split at h
 all_goals first
  | (cases h;done)
  | (cases h;exact Nat.le_refl _)
  | (have e:=congrArg (λ x=>(Prod.snd x).world.drawn) (Except.ok.inj h);simp only[zjt] at e;exact Nat.le_of_eq e)
  | (have h1:=zr0 ‹timerOp.opened _ _=some _›;have e:=congrArg (λ x=>(Prod.snd x).world.drawn) (Except.ok.inj h);simp only[zjt] at e;exact Nat.le_trans h1 (Nat.le_of_eq e))
theorem zl4 (p:Program)(m:Machine)(i:Nat)(listen:Bool):sOk m.world.drawn (runT p m i listen).1:=by
 unfold runT;simp only;have h:=zus p (i==0) (m.gs.swapAt! i { (default:Goroutine) with status:=.finished }).1 m.world listen;generalize stepG p (i==0) _ m.world listen=s at h ⊢
 cases s with
 | ended o w es=>exact xC
 | comm g cs b sh w es=>exact λ m' e=>Nat.le_trans h (zih _ _ _ _ _ _ _ _ _ m' e)
 | go g w es=>exact xI h
 | spawn g c w es=>exact xI h
 | count g w es=>
  simp only
  split
  ·exact xC
  ·exact xI h
 | alone g on w es=>exact xI h
 | collect g w es=>exact λ m' e=>Nat.le_trans h (zio _ _ _ _ m' e)
 | watch g w es=>exact xI h
 | newcoro g c d w es=>exact xI h
 | coroswitch g c ex w es=>
  simp only
  split
  ·exact xI h
  ·exact xI h
  ·exact xC
 | timer g op w es=>
  simp only
  split
  ·rename_i h1;exact xI (Nat.le_trans h (zp7 h1))
  ·exact xI h
  ·exact xC
  ·exact xC
def KP (n:Nat)(v:Move):Prop:=match v with
 | .goroutine m _=>n<=m.world.drawn
 | .machine s _=>sOk n s
theorem zgo (p:Program)(m:Machine):KP m.world.drawn (askOn p m):=by
 unfold askOn;simp only
 split
 ·exact xC
 ·rename_i h0;have h0:=xO h0
  split
  ·exact λ m' e=>Nat.le_trans h0 (zuq p _ _ m' e)
  ·split
   ·split
    ·exact xI h0
    ·split
     ·exact xI h0
     ·split <;> exact xC
   ·split
    ·split
     ·exact xC
     ·rename_i h1;have h1:=Nat.le_trans h0 (xO h1)
      split
      ·exact h1
      ·split
       ·exact xC
       ·rename_i h2;exact Nat.le_trans h1 (xO h2)
    ·split
     ·exact xC
     ·rename_i hc;have hc:=Nat.le_trans h0 (xO hc)
      split
      ·exact xC
      ·rename_i h1;have h1:=Nat.le_trans hc (xO h1)
       split
       ·exact h1
       ·split
        ·exact xC
        ·rename_i h2;exact Nat.le_trans h1 (xO h2)
     ·rename_i hc;have hc:=Nat.le_trans h0 (xO hc);exact xI hc
     ·rename_i hc;have hc:=Nat.le_trans h0 (xO hc)
      split
      ·exact xC
      ·rename_i h1;have h1:=xO h1;have h1:=Nat.le_trans hc h1
       split
       ·exact h1
       ·split
        ·exact xC
        ·rename_i h2;exact Nat.le_trans h1 (xO h2)
theorem KP.mono {a b:Nat}{v:Move}(h:KP b v)(Ao:a<=b):KP a v:=by
 cases v with
 | goroutine m i=>exact Nat.le_trans Ao h
 | machine s ops=>exact λ m' e=>Nat.le_trans Ao (h m' e)
theorem zga (p:Program)(m:Machine):KP m.world.drawn (ask p m):=by
 unfold ask
 split
 ·split
  ·exact xC
  ·rename_i h;have h:=xO h
   split
   ·rename_i h1;exact (zgo p _).mono (Nat.le_trans h (zio _ _ _ _ _ h1))
   ·rename_i h1;exact λ m' e=>Nat.le_trans h (zio _ _ _ _ _ e)
  ·rename_i h;exact (zgo p _).mono (xO h)
 ·exact zgo p m
theorem zyb (p:Program)(m:Machine):KP m.world.drawn (move p m):=by
 unfold move
 split
 ·split
  ·exact Nat.le_refl _
  ·exact xC
 ·split
  ·split
   ·exact Nat.le_refl _
   ·exact zga p _
  ·exact zga p m
theorem zy6 (h:step p m=.next m'):m.world.drawn<=m'.world.drawn:=by
 have hm:=zyb p m;unfold step stepT at h
 split at h
 ·rename_i m1 i h1;rw[h1] at hm;exact Nat.le_trans hm (zl4 p m1 i _ m' h)
 ·rename_i s ops h1;rw[h1] at hm;exact hm m' h
theorem znv {p:Program}:∀ (n:Nat) {m m':Machine},runN p n m=.next m'->m.world.drawn<=m'.world.drawn
 | 0,m,m',h=>by rw[runN] at h;cases h;exact Nat.le_refl _
 | n+1,m,m',h=>by
  rw[runN] at h
  split at h
  ·rename_i m1 h1;exact Nat.le_trans (zy6 h1) (znv n h)
  ·rename_i h1;exact absurd h (λ e=>h1 m' e)
theorem ztj {f:FuncId}{args:Array Value}{R:Ending->W8->Prop}(h:Calls p f args w R):Calls p f args w λ e w'=>R e w'/\(∀ v,e=.returned v->w.drawn<=w'.drawn):=λ cs=>by
 obtain⟨e,w',fr,h1,h2,h3⟩:=h cs;refine⟨e,w',fr,⟨h1,λ v hv=>?_⟩,h2,h3⟩;subst hv;obtain⟨n,hn⟩:=h2;exact znv n hn
end
section
open Go.RowKit
theorem z5y (TX:B8->B8->B8->B8->B8->B8->Prop)(w:W8)(p0 p1 p2 p3 p4 q0 q1 q2 q3 q4 tp tq:B8)(s1 h1 s2 h2:Nat)(hp:TX p0 p1 p2 p3 p4 tp)(hq:TX q0 q1 q2 q3 q4 tq)
  (HT:∀ (x0 x1 x2 x3 x4 t:B8),TX x0 x1 x2 x3 x4 t->∀ W:W8,Calls Tryz.prog 63 #[.agg #[.string x0,.string x1,.string x2,.string x3,.string x4]] W λ e w'=>e=.returned (.string t)/\Below W.heap.size W w'):
  Calls Tryz.prog 106 #[.agg #[.string p0,.string p1,.string p2,.string p3,.string p4,.int .i64 s1,.int .i64 h1],.agg #[.string q0,.string q1,.string q2,.string q3,.string q4,.int .i64 s2,.int .i64 h2]] w λ e w'=>e=.returned (.int .i64 (orC (zm6 s1 s2) (zm6 h1 h2) (zvl tp tq)))/\Below w.heap.size w w':=by
 have T1:=zC HT;have C1:=zC zjh;have C3:=zC (λ W=>ztn tp tq W);have O3:=zC (λ (W:W8) (a b c:Int)=>ya0 (W.alloc (.cells #[.int .i64 a,.int .i64 b,.int .i64 c] 3)) W.heap.size a b c (heap_alloc_new W _));clear HT;generalize zvl tp tq=r3 at *;go_enter Tryz.func106,Tryz.ntmps106;go_upto_region 1 with fail;generalize hw0:World.alloc (World.alloc w _) _=w0;have k0:Below w.heap.size w w0:=by
  rw[<-hw0];exact ((Below.refl w.heap.size w).alloc L9 _).alloc (by simp) _
 have x0:w0.heap[w.heap.size]?=some (.cells #[.string p0,.string p1,.string p2,.string p3,.string p4,.int .i64 s1,.int .i64 h1] 148 (0,0)):=by
  rw[<-hw0,Below.heap_alloc _ _ _ (by simp)];exact heap_alloc_new w _
 have x1:w0.heap[w.heap.size+1]?=some (.cells #[.string q0,.string q1,.string q2,.string q3,.string q4,.int .i64 s2,.int .i64 h2] 148 (0,0)):=by
  rw[<-hw0];have:=heap_alloc_new (w.alloc (.cells #[.string p0,.string p1,.string p2,.string p3,.string p4,.int .i64 s1,.int .i64 h1] 148)) (.cells #[.string q0,.string q1,.string q2,.string q3,.string q4,.int .i64 s2,.int .i64 h2] 148);rw[World.size_alloc] at this;exact this
 clear hw0;have cq:=zC k0
 have HA:=zC (λ (W:W8) (hW:Below w0.heap.size w0 W)=>(show W.cell? ⟨w.heap.size,0,none⟩=some (.string p0)/\W.cell? ⟨w.heap.size,1,none⟩=some (.string p1)/\W.cell? ⟨w.heap.size,2,none⟩=some (.string p2)/\W.cell? ⟨w.heap.size,3,none⟩=some (.string p3)/\W.cell? ⟨w.heap.size,4,none⟩=some (.string p4)/\W.cell? ⟨w.heap.size,5,none⟩=some (.int .i64 s1)/\W.cell? ⟨w.heap.size,6,none⟩=some (.int .i64 h1)/\W.cell? ⟨w.heap.size+1,0,none⟩=some (.string q0)/\W.cell? ⟨w.heap.size+1,1,none⟩=some (.string q1)/\W.cell? ⟨w.heap.size+1,2,none⟩=some (.string q2)/\W.cell? ⟨w.heap.size+1,3,none⟩=some (.string q3)/\W.cell? ⟨w.heap.size+1,4,none⟩=some (.string q4)/\W.cell? ⟨w.heap.size+1,5,none⟩=some (.int .i64 s2)/\W.cell? ⟨w.heap.size+1,6,none⟩=some (.int .i64 h2) from by
  have y0:=(hW.block _ (Array.getElem?_eq_some_iff.1 x0).1).trans x0;have y1:=(hW.block _ (Array.getElem?_eq_some_iff.1 x1).1).trans x1
  exact⟨(zB y0 0).1,(zB y0 1).1,(zB y0 2).1,(zB y0 3).1,(zB y0 4).1,(zB y0 5).1,(zB y0 6).1,(zB y1 0).1,(zB y1 1).1,(zB y1 2).1,(zB y1 3).1,(zB y1 4).1,(zB y1 5).1,(zB y1 6).1⟩))
 clear x0 x1 k0;have Le:Below w0.heap.size w0 w0.drew:=B9.drew
 go_region_held3 (λ W=>W.cell? ⟨w.heap.size,0,none⟩=some (.string p0)/\W.cell? ⟨w.heap.size,1,none⟩=some (.string p1)/\W.cell? ⟨w.heap.size,2,none⟩=some (.string p2)/\W.cell? ⟨w.heap.size,3,none⟩=some (.string p3)/\W.cell? ⟨w.heap.size,4,none⟩=some (.string p4)/\W.cell? ⟨w.heap.size,5,none⟩=some (.int .i64 s1)/\W.cell? ⟨w.heap.size,6,none⟩=some (.int .i64 h1)/\W.cell? ⟨w.heap.size+1,0,none⟩=some (.string q0)/\W.cell? ⟨w.heap.size+1,1,none⟩=some (.string q1)/\W.cell? ⟨w.heap.size+1,2,none⟩=some (.string q2)/\W.cell? ⟨w.heap.size+1,3,none⟩=some (.string q3)/\W.cell? ⟨w.heap.size+1,4,none⟩=some (.string q4)/\W.cell? ⟨w.heap.size+1,5,none⟩=some (.int .i64 s2)/\W.cell? ⟨w.heap.size+1,6,none⟩=some (.int .i64 h2)) ((refine zA HA _ ?_;first | exact Le | exact bY | exact gi | exact gi.alloc gi.size _)) ((first
  | (go_at_call 161;refine (zA C1 _ _ _).mono ?_;rintro en wx ⟨rfl,nN⟩;subst nN)
  | (go_at_call 63;refine (zA T1 _ _ _ _ _ _ (by assumption) _).mono ?_;rintro en wT ⟨rfl,Cq⟩;first | (have gi:Below w0.heap.size w0 wT:=bY.trans (Cq.mono bY.size)) | (have bY:Below w0.heap.size w0 wT:=zL Cq);clear Cq)
  | (go_at_call 162;refine (zA C3 _).mono ?_;rintro en wx ⟨rfl,nN⟩;subst nN)
  | (go_at_call 160;refine (zA O3 _ _ _ _).mono ?_;rintro en wx ⟨rfl,nN⟩;subst nN)))
 all_goals
  go_wp2_with fail;go_ret;exact⟨rfl,(zA cq).trans ((gi.alloc gi.size _).mono (zA cq).size)⟩
def MK (p q:Pl):Int:=orC (zm6 p.s q.s) (zm6 p.h q.h) (zvl (yI p.t) (yI q.t))
theorem zxg (w:W8)(p q:Pl)(hp:zbj p.t)(hq:zbj q.t)(lp:(zbv p.t.1 (xE p.t)).length<=1000000000)(lq:(zbv q.t.1 (xE q.t)).length<=1000000000):
  Calls Tryz.prog 106 #[plV p,plV q] w λ e w'=>e=.returned (.int .i64 (MK p q))/\Below w.heap.size w w':=
 z5y (λ x0 x1 x2 x3 x4 t=>∃ y:Th,zbj y/\(zbv y.1 (xE y)).length<=1000000000/\y.p=x0/\xF y.ts 0=x1/\xF y.ts 1=x2/\xF y.ts 2=x3/\xF y.ts 3=x4/\yI y=t) w _ _ _ _ _ _ _ _ _ _ _ _ p.s p.h q.s q.h ⟨p.t,hp,lp,rfl,rfl,rfl,rfl,rfl,rfl⟩ ⟨q.t,hq,lq,rfl,rfl,rfl,rfl,rfl,rfl⟩ (λ x0 x1 x2 x3 x4 t ⟨y,h1,h2,e0,e1,e2,e3,e4,e5⟩ W=>by subst e0 e1 e2 e3 e4 e5;exact zn4 W y h1 h2)
theorem zmx {w w':W8}(h:Below w.heap.size w w')(hd:w.drawn<=w'.drawn):∃ q os,w'=Sort.grow (w.drewN q) os:=by
 refine⟨w'.drawn-w.drawn,w'.heap.extract w.heap.size w'.heap.size,?_⟩;obtain⟨h1,h2,h3,h4,h5⟩:=h
 cases w' with
 | mk heap tape drawn os output=>
  simp only at h1 h2 h3 h4 h5 hd;subst h1 h2 h3;unfold Sort.grow World.drewN;simp only
  congr 1
  ·apply Array.ext_getElem?;intro i;rw[Array.getElem?_append]
   split
   ·rename_i hi;exact h5 i hi
   ·rename_i hi;rw[Array.getElem?_extract]
    split
    ·congr 1;omega
    ·rw[Array.getElem?_eq_none (by omega)]
  ·omega
end
end Go.Proofs.YtldkpahaocjdpaaGreat
