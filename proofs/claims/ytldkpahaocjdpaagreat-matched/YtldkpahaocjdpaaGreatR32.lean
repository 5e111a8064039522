/-
  cmp.Compare over numbers, slices.Compare over rows of them, cmp.Or.
-/
import Derived.Test.YtldkpahaocjdpaaGreatR28
import Derived.Sort.LoopGhostIn
import Derived.StepT
set_option maxHeartbeats 16000000
set_option maxRecDepth 1000000
namespace Go.Proofs.YtldkpahaocjdpaaGreat
section
open Go.RowKit
def cO (l:List Nat):V8:=l.map λ (x:Nat)=>Value.int .i64 x
theorem z3y {w:W8}{base:Nat}{a:O8}{c:Nat}{xs:List Nat}(h:w.ownsRow base 3 1 (.slice a xs.length c) xs.length (cO xs))(k:Nat)(hk:k<xs.length):∃ g,a=some ⟨g,0,none⟩/\g<w.heap.size/\xs.length<=c/\c<=maxLen/\w.cell? ⟨g,k,none⟩=some (.int .i64 xs[k]):=by
 rcases h.2 with⟨_,h0⟩ | ⟨g,cap,cur,hv,hb,hg,dG,dx,eZ,ht⟩
 ·omega
 ·injection hv with h1 h2 h3
  subst h1 h3;refine⟨g,rfl,(Array.getElem?_eq_some_iff.1 hg).1,dG,dx,?_⟩;rw[h.cellAt k (by omega)];unfold cO;rw[List.getElem?_map,List.getElem?_eq_getElem hk];rfl
theorem zzm (x:Int)(w:W8):Calls Tryz.prog 216 #[.int .i64 x] w λ e w'=>e=.returned (.bool false)/\w'=w:=by
 go_enter Tryz.func216,Tryz.ntmps216;go_wp2_with fail;go_ret;exact⟨by simp,rfl⟩
theorem zju (x y:Nat)(w:W8):Calls Tryz.prog 161 #[.int .i64 x,.int .i64 y] w λ e w'=>e=.returned (.int .i64 (zol x y))/\w'=w:=by
 have hn:=zzm
 by_cases h1:x<y
 ·have HC:=zC (show zol x y=-1 by unfold zol;rw[if_pos h1]);have hi:(x:Int)<y:=by omega
  clear h1;go_enter Tryz.func161,Tryz.ntmps161;go_wp2_with (go_at_call 216;refine (hn _ _).mono ?_;rintro e w' ⟨rfl,rfl⟩);go_ret;exact⟨by rw[zA HC];rfl,rfl⟩
 ·by_cases h2:y<x
  ·have HC:=zC (show zol x y=1 by unfold zol;rw[if_neg h1,if_pos h2]);have hi:¬ (x:Int)<y:=(by omega);have hj:(y:Int)<x:=(by omega);clear h1 h2;go_enter Tryz.func161,Tryz.ntmps161;go_wp2_with (go_at_call 216;refine (hn _ _).mono ?_;rintro e w' ⟨rfl,rfl⟩);go_ret;exact⟨by rw[zA HC];rfl,rfl⟩
  ·have HC:=zC (show zol x y=0 by unfold zol;rw[if_neg h1,if_neg h2]);have hi:¬ (x:Int)<y:=(by omega);have hj:¬ (y:Int)<x:=(by omega);clear h1 h2;go_enter Tryz.func161,Tryz.ntmps161;go_wp2_with (go_at_call 216;refine (hn _ _).mono ?_;rintro e w' ⟨rfl,rfl⟩);go_ret;exact⟨by rw[zA HC];rfl,rfl⟩
theorem z3f {x y:List Nat}{k:Nat}(hx:k<x.length)(hy:k<y.length):zqj (x.drop k) (y.drop k)=if zol x[k] y[k]=0 then zqj (x.drop (k+1)) (y.drop (k+1)) else zol x[k] y[k]:=by
 rw[List.drop_eq_getElem_cons hx,List.drop_eq_getElem_cons hy,zqj]
theorem zsd (w:W8)(base base':Nat)(a b:O8)(c d:Nat)(x y:List Nat)(hx:w.ownsRow base 3 1 (.slice a x.length c) x.length (cO x))(hy:w.ownsRow base' 3 1 (.slice b y.length d) y.length (cO y)):
  Calls Tryz.prog 166 #[.slice a x.length c,.slice b y.length d] w λ e w'=>e=.returned (.int .i64 (zqj x y))/\w'=w:=by
 have HX:=zC hx;have HY:=zC hy;have m1:=vK hx;have m2:=vK hy;unfold maxLen at m1 m2;clear hx hy;go_enter Tryz.func166,Tryz.ntmps166;go_wp2_with fail
 go_loop [11] (λ i=>∃ k:Nat,k<=x.length/\k<=y.length/\i=.int .i64 k/\zqj (x.drop k) (y.drop k)=zqj x y) (λ i=>x.length-(intOf i).toNat)
 exact⟨0,Nat.zero_le _,Nat.zero_le _,rfl,rfl⟩
 case round=>
  obtain⟨k,hk,cN,rfl,bj⟩:=hrel;have HF:=zC bj;clear bj
  by_cases aN:k<x.length
  ·obtain⟨g,rfl,nB,dG,dx,hc⟩:=z3y (zA HX) k aN;have gW:(k:Int)<x.length:=by omega
   by_cases lG:k<y.length
   ·obtain⟨g2,rfl,dd,JP,Je,nA⟩:=z3y (zA HY) k lG;have CJ:(k:Int)<y.length:=(by omega);have HS:=zC (z3f aN lG);have HC:=zC (λ w=>zju x[k] y[k] w);generalize x[k]=xk at *;generalize y[k]=yk at *
    by_cases h0:zol xk yk=0
    ·have HE:=zC (show zqj (x.drop (k+1)) (y.drop (k+1))=zqj x y by rw[<-zA HF,zA HS,if_pos h0]);rw[h0] at HC;clear h0;go_wp2_with (go_at_call 161;refine (zA HC _).mono ?_;rintro e w' ⟨rfl,rfl⟩)
     go_round
     case rel=>exact⟨k+1,by omega,by omega,by go_num,zA HE⟩
     case measure=>simp[intOf];omega
    ·have HE:=zC (show zqj x y=zol xk yk by rw[<-zA HF,zA HS,if_neg h0]);generalize zol xk yk=r at *;go_wp2_with (go_at_call 161;refine (zA HC _).mono ?_;rintro e w' ⟨rfl,rfl⟩);go_ret;exact⟨by rw[zA HE];rfl,rfl⟩
   ·have CJ:¬ (k:Int)<y.length:=(by omega);have hle:(y.length:Int)<=k:=(by omega);have HE:=zC (show zqj x y=1 by rw[<-zA HF,List.drop_eq_getElem_cons aN,List.drop_of_length_le (l:=y) (by omega)];rfl);go_wp2_with fail;go_ret;exact⟨by rw[zA HE];rfl,rfl⟩
  ·have gW:¬ (k:Int)<x.length:=by omega
   by_cases lG:x.length<y.length
   ·have qj:(x.length:Int)<y.length:=(by omega);have HE:=zC (show zqj x y=-1 by rw[<-zA HF,List.drop_of_length_le (l:=x) (by omega),List.drop_eq_getElem_cons (l:=y) (by omega)];rfl);go_wp2_with fail;go_ret;exact⟨by rw[zA HE];rfl,rfl⟩
   ·have qj:¬ (x.length:Int)<y.length:=(by omega);have HE:=zC (show zqj x y=0 by rw[<-zA HF,List.drop_of_length_le (l:=x) (by omega),List.drop_of_length_le (l:=y) (by omega)];rfl);go_wp2_with fail;go_ret;exact⟨by rw[zA HE];rfl,rfl⟩
def orC (a b c:Int):Int:=if a≠0 then a else if b≠0 then b else c
theorem ycd (w:W8)(g:Nat)(a b c:Int)(h:w.heap[g]?=some (.cells #[.int .i64 a,.int .i64 b,.int .i64 c] 3 (0,0))):
  Calls Tryz.prog 160 #[.slice (some ⟨g,0,none⟩) 3 3] w λ e w'=>e=.returned (.int .i64 (orC a b c))/\w'=w:=by
 have c0:=(zB h 0).1;have c1:=(zB h 1).1;have c2:=(zB h 2).1;simp only[List.getElem?_toArray,List.getElem?_cons_zero,List.getElem?_cons_succ] at c0 c1 c2;have hg:=(Array.getElem?_eq_some_iff.1 h).1;clear h;go_enter Tryz.func160,Tryz.ntmps160;go_wp2_with fail
 go_loop [8] (λ i=>∃ k:Nat,k<=3/\i=.int .i64 k/\(0<k->a=0)/\(1<k->b=0)/\(2<k->c=0)) (λ i=>3-(intOf i).toNat)
 exact⟨0,by omega,rfl,by omega,by omega,by omega⟩
 case round=>
  obtain⟨k,hk,rfl,h0,h1,h2⟩:=hrel
  match k,hk with
  | 0,_=>
   clear h0 h1 h2
   by_cases ha:a=0
   ·go_wp2_with fail
    go_round
    case rel=>exact⟨1,by omega,by go_num,λ _=>ha,by omega,by omega⟩
    case measure=>simp[intOf]
   ·have HE:=zC (show orC a b c=a by unfold orC;rw[if_pos ha]);go_wp2_with fail;go_ret;exact⟨by rw[zA HE];rfl,rfl⟩
  | 1,_=>
   have ha:=h0 (by omega);have HA:=zC ha;clear h0 h1 h2 ha
   by_cases hb:b=0
   ·go_wp2_with fail
    go_round
    case rel=>exact⟨2,by omega,by go_num,λ _=>zA HA,λ _=>hb,by omega⟩
    case measure=>simp[intOf]
   ·have HE:=zC (show orC a b c=b by unfold orC;rw[if_neg (by simp[zA HA]),if_pos hb]);go_wp2_with fail;go_ret;exact⟨by rw[zA HE];rfl,rfl⟩
  | 2,_=>
   have HA:=zC (h0 (by omega));have HB:=zC (h1 (by omega));clear h0 h1 h2
   by_cases hc:c=0
   ·go_wp2_with fail
    go_round
    case rel=>exact⟨3,by omega,by go_num,λ _=>zA HA,λ _=>zA HB,λ _=>hc⟩
    case measure=>simp[intOf]
   ·have HE:=zC (show orC a b c=c by unfold orC;rw[if_neg (by simp[zA HA]),if_neg (by simp[zA HB])]);go_wp2_with fail;go_ret;exact⟨by rw[zA HE];rfl,rfl⟩
  | 3,_=>
   have HE:=zC (show orC a b c=0 by unfold orC;rw[if_neg (by simp[h0]),if_neg (by simp[h1])];exact h2 (by omega));clear h0 h1 h2;go_wp2_with fail;go_ret;exact⟨by rw[zA HE];rfl,rfl⟩
end
section
open Go.RowKit
def zby (n:Nat)(f:Nat->Value):Array Value:=((List.range n).map f).toArray
theorem j4 (n:Nat)(f:Nat->Value):(zby n f).size=n:=by simp[zby]
variable {i n:Nat} {f:Nat->Value}
theorem zc6 (h:i<n):(zby n f)[i]?=some (f i):=by
 simp[zby,h]
theorem zlg (n:Nat)(z:Value):madeCells #[z] n=zby n (λ _=>z):=by
 apply Array.ext_getElem?;intro i
 by_cases h:i<n
 ·rw[z7x z n i h,zc6 h]
 ·rw[Array.getElem?_eq_none (by simp[madeCells];omega),Array.getElem?_eq_none (by rw[j4];omega)]
variable {v:Value}
theorem zzg:(zby n f).setIfInBounds i v=zby n (λ j=>if j=i then v else f j):=by
 apply Array.ext_getElem?;intro j;rw[Array.getElem?_setIfInBounds]
 by_cases h:j<n
 ·rw[zc6 h,zc6 h]
  split
  ·rename_i e;subst e;rw[if_pos (by rw[j4];exact h),if_pos rfl]
  ·rename_i e;rw[if_neg (λ e'=>e e'.symm)]
 ·rw[Array.getElem?_eq_none (xs:=zby n f) (by rw[j4];omega),Array.getElem?_eq_none (by rw[j4];omega)]
  split
  ·rename_i e;subst e;rw[if_neg (by rw[j4];exact h)]
  ·rfl
variable {g:Nat->Value}
theorem z2o (h:∀ i,i<n->f i=g i):zby n f=zby n g:=by
 unfold zby;rw[List.map_congr_left λ i hi=>h i (List.mem_range.1 hi)]
def aK (w:W8)(b:Nat)(T:TypeId)(n:Nat)(f:Nat->Value):Prop:=w.heap[b]?=some (.cells (zby n f) T (0,0))
theorem aK.start (w:W8)(T:TypeId)(n:Nat)(z:Value):aK (w.alloc (.cells (madeCells #[z] n) T)) w.heap.size T n (λ _=>z):=by
 unfold aK;rw[<-zlg];exact heap_alloc_new w _
variable {T:TypeId} {b:Nat} {w:W8}
theorem aK.set (h:aK w b T n f)(i:Nat)(v:Value):aK (w.setCell ⟨b,i,none⟩ v) b T n (λ j=>if j=i then v else f j):=by
 unfold aK;rw[setCell_eq_setRow w b i _ T (0,0) v h,<-zzg];exact setRow_heap _ _ _ _ _ _ h
theorem aK.cell (h:aK w b T n f)(hi:i<n):w.cell? ⟨b,i,none⟩=some (f i):=by
 rw[(zB h i).1,zc6 hi]
theorem aK.fz (h:aK w b T n f)(i:Nat):w.frozen? ⟨b,i,none⟩=false:=(zB h i).2
theorem aK.lt (h:aK w b T n f):b<w.heap.size:=(Array.getElem?_eq_some_iff.1 h).1
theorem aK.eq (h:aK w b T n f)(e:∀ i,i<n->f i=g i):aK w b T n g:=by
 unfold aK at h ⊢;rw[h,z2o e]
variable {w':W8}
theorem aK.block (h:aK w b T n f)(e:w'.heap[b]?=w.heap[b]?):aK w' b T n f:=e.trans h
theorem aK.below (h:aK w b T n f)(k:Below w.heap.size w w'):aK w' b T n f:=(k.block b h.lt).trans h
theorem aK.cO {w:W8}{b n:Nat}{g:Nat->Nat}(h:aK w b 3 n (λ i=>.int .i64 (g i:Nat)))(hn:n<=maxLen){base:Nat}(hb:base<=b):w.ownsRow base 3 1 (.slice (some ⟨b,0,none⟩) n n) n (cO ((List.range n).map g)):=by
 refine⟨by simp[Go.Proofs.YtldkpahaocjdpaaGreat.cO],.inr ⟨b,n,_,rfl,hb,h,Nat.le_refl _,hn,by rw[j4];omega,?_⟩⟩;simp only[zby,Go.Proofs.YtldkpahaocjdpaaGreat.cO,List.map_map,Nat.mul_one];rw[List.take_of_length_le (by simp)];rfl
variable {row:Option Nat} {A B:W8}
theorem zk8 {cs:Array Value}{t:TypeId}{fr:Nat × Nat}(h:A.heap[b]?=some (.cells cs t fr))(hg:A.grownBy B row)(hr:∀ i,row=some i->∃ o:Obj,A.heap[i]?=some o/\o.isCells=false):B.heap[b]?=some (.cells cs t fr):=
 (hg.block b (Array.getElem?_eq_some_iff.1 h).1 (λ e=>by obtain⟨o,ho,hc⟩:=hr b e.symm;rw[h] at ho;cases ho;cases hc)).trans h
theorem zta {base:Nat}{e:TypeId}{size:Nat}{xs:V8}(h:A.ownsRow base e size v n xs)(hg:A.grownBy B row)(hr:∀ i,row=some i->∃ o:Obj,A.heap[i]?=some o/\o.isCells=false):B.ownsRow base e size v n xs:=by
 refine zQ h λ g jo=>?_
 rcases h.2 with⟨h0,_⟩ | ⟨g',cap,cur,rfl,hb,dn,_⟩
 ·rw[h0] at jo;cases jo
 ·have e:g'=g:=by simpa[Value.ownBlock] using jo
  subst e;rw[zk8 dn hg hr,dn]
theorem jQ.setCell {No:Nat->Prop}{a:W8}(h:jQ No a w){j:Nat}(hb:a.heap.size<=b\/No b)(v:Value):jQ No a (w.setCell ⟨b,j,none⟩ v):=
 ⟨h.os,h.tape,h.output,by simpa using h.size,λ i o hi hn ho=>by
  have h1:=h.same i o hi hn ho;have bG:i≠b:=λ e=>by
   subst e;rcases hb with hb | hb
   ·have:=(Array.getElem?_eq_some_iff.1 hi).1;omega
   ·exact hn hb
  rw[Below.heap_setCell _ _ _ _ (by simpa using bG)]
  exact h1⟩
end
section
open Go.RowKit
structure Pl where
 t:Th
 s:Nat
 h:Nat
instance:Inhabited Pl:=⟨⟨({ data:=#[] },[]),0,0⟩⟩
def aG (p:Pl):V8:=[.string p.t.p,.string (xF p.t.ts 0),.string (xF p.t.ts 1),.string (xF p.t.ts 2),.string (xF p.t.ts 3),.int .i64 p.s,.int .i64 p.h]
def plV (p:Pl):Value:=.agg (aG p).toArray
theorem zx6 (p:Pl):(aG p).length=7:=rfl
theorem ztf (p:Pl):∀ v∈aG p,v.oneCell'=true:=by
 intro v hv;simp[aG] at hv;rcases hv with rfl | rfl | rfl | rfl | rfl | rfl | rfl <;> rfl
def zbj (p q:Pl):Bool:=decide (p.s<q.s)||(decide (p.s=q.s)&&decide (p.h<q.h))
theorem z57 (w:W8)(p q:Pl):
  Calls Tryz.prog 163 #[plV p,plV q] w λ e w'=>e=.returned (.bool (zbj p q))/\Below w.heap.size w w':=by
 have b0:=((Below.refl w.heap.size w).alloc L9 (.cells (aG p).toArray 148)).alloc (by simp) (.cells (aG q).toArray 148);have gd:=zC b0;clear b0;unfold plV
 by_cases h1:p.s<q.s
 ·have HE:=zC (show zbj p q=true by unfold zbj;simp[h1]);have hi:(p.s:Int)<q.s:=by omega
  clear h1;unfold aG at gd ⊢;go_enter Tryz.func163,Tryz.ntmps163;go_wp2_with fail;go_ret;exact⟨by rw[zA HE];rfl,zA gd⟩
 ·by_cases h2:p.s=q.s
  ·have HE:=zC (show zbj p q=decide (p.h<q.h) by unfold zbj;simp[h2]);have hi:¬ (p.s:Int)<q.s:=(by omega);clear h1;unfold aG at gd ⊢;rw[h2] at hi gd ⊢;clear h2;go_enter Tryz.func163,Tryz.ntmps163;go_wp2_with fail
   all_goals go_ret
   all_goals exact⟨by rw[zA HE];simp,zA gd⟩
  ·have HE:=zC (show zbj p q=false by unfold zbj;simp[h1,h2]);have hi:¬ (p.s:Int)<q.s:=(by omega);have hj:¬ (p.s:Int)=q.s:=(by omega);clear h1 h2;unfold aG at gd ⊢;go_enter Tryz.func163,Tryz.ntmps163;go_wp2_with fail;go_ret;exact⟨by rw[zA HE];rfl,zA gd⟩
end
section
open Go.RowKit Go.Maps
def zam (n m:Nat):List (Fin n):=((List.finRange n).drop m).reverse
theorem NL (n:Nat):zam n n=[]:=by unfold zam;rw[List.drop_of_length_le (by simp)];rfl
theorem ziy {n m:Nat}(h:m<n):zam n m=zam n (m+1)++[⟨m,h⟩]:=by
 unfold zam;rw[List.drop_eq_getElem_cons (by simpa using h),List.reverse_cons];simp
theorem z16 (n m:Nat):(zam n m).length=n-m:=by unfold zam;simp
theorem z67 (w:W8)(a:O8)(n c:Nat):
  Calls Tryz.prog 68 #[.slice a n c] w λ e w'=>e=.returned (.func (.func 107) #[] #[.pointer (some ⟨w.heap.size,0,none⟩)])/\w'=w.alloc (.cells #[.slice a n c] 141):=by
 go_enter Tryz.func68,Tryz.ntmps68;go_wp2_with fail;go_ret;exact⟨rfl,rfl⟩
theorem zyz (No:Nat->Prop)(n:Nat)(w:W8)(sb bo:Nat)(ao:O8)(co:Nat)(O:List Pl)(hs:w.heap[sb]?=some (.cells #[.slice ao O.length co] 141 (0,0)))(ho:w.ownsRow bo 148 7 (.slice ao O.length co) O.length (O.flatMap aG))(lH:¬ No sb)(FN:∀ g,(Value.slice ao O.length co).ownBlock=some g->¬ No g)(hl:O.length<=1000):
  SeqStopsK Fence.wide n Tryz.prog 107 #[.pointer (some ⟨sb,0,none⟩)] (λ x:Fin O.length=>#[.int .i64 (x.1:Nat),plV O[x]]) (jQ No) (λ xs=>xs=zam O.length 0) (λ _=>True) O.length w:=by
 intro l J Jx W hW hJ hJx hY h0;have js:=(hW.block sb (Array.getElem?_eq_some_iff.1 hs).1).trans hs;have za:=zG ho hW (λ g e=>(ho.lt g e).2);have c0:=(zB js 0).1;simp only[List.getElem?_toArray,List.getElem?_cons_zero] at c0;have HS:=zC js;have HO:=zC za;have HY:=zC hY;have H0:=zC h0;have vu:=zC lH;have Hr:=zC FN;clear hs ho hY h0 lH FN hW hJ hJx js za;refine callsIn_wide.2 ?_;go_enter Tryz.func107,Tryz.ntmps107;go_upto_region 1 with fail;refine (wpIn_wide (n:=2)).1 ?_
 gi_loopg [3] O.length (λ gg i wr=>∃ m:Nat,m<=O.length/\gg=m/\i=.int .i64 ((m:Int)-1)/\J (zam O.length m) wr/\jQ No W wr)
 exact⟨O.length,Nat.le_refl _,rfl,rfl,by rw[NL];exact zA H0,jQ.refl _ _⟩
 case round=>
  clear H0 c0;obtain⟨m,hm,hgm,rfl,hj,hk⟩:=hrel;have HJ:=zC hj;have HK:=zC hk;have c0:=(zB (hk.cells (zA HS) (zA vu)) 0).1;simp only[List.getElem?_toArray,List.getElem?_cons_zero] at c0;have aE:=hk.row (zA HO) (zA Hr);clear hj hk
  cases m with
  | zero=>
   have hz:¬ (0:Int)<=((0:Nat):Int)-1:=(by omega);clear aE c0
   gi_wp2
   go_end0;exact⟨⟨_,rfl⟩,.inl (zA HJ)⟩
  | succ q=>
   have hq:q<O.length:=(by omega);rw[show (((q+1:Nat):Int)-1)=(q:Int) by omega];obtain⟨g,cap,hv,iC,dp,dG,dx,hc⟩:=vE zx6 aE q hq;injection hv with h1 h2 h3
   subst h1 h3;have d0:wr.cell? ⟨g,q*7,none⟩=some (.string O[q].t.p):=hc 0 (by omega);have d1:wr.cell? ⟨g,q*7+1,none⟩=some (.string (xF O[q].t.ts 0)):=hc 1 (by omega);have d2:wr.cell? ⟨g,q*7+2,none⟩=some (.string (xF O[q].t.ts 1)):=hc 2 (by omega);have d3:wr.cell? ⟨g,q*7+3,none⟩=some (.string (xF O[q].t.ts 2)):=hc 3 (by omega);have d4:wr.cell? ⟨g,q*7+4,none⟩=some (.string (xF O[q].t.ts 3)):=hc 4 (by omega);have d5:wr.cell? ⟨g,q*7+5,none⟩=some (.int .i64 O[q].s):=hc 5 (by omega);have d6:wr.cell? ⟨g,q*7+6,none⟩=some (.int .i64 O[q].h):=hc 6 (by omega);have AE:(q:Int)<O.length:=(by omega);have FX:(0:Int)<=q:=(by omega);obtain⟨fn,tmps,assign,body,hy,hR⟩:=zuq (m':=1) (zA HY (zam O.length (q+1)) ⟨q,hq⟩ wr (zA HJ) (by rw[z16];omega));clear hc aE h2;have K5:(Instr.yield l #[.int .i64 (q:Nat),.agg #[.string O[q].t.p,.string (xF O[q].t.ts 0),.string (xF O[q].t.ts 1),.string (xF O[q].t.ts 2),.string (xF O[q].t.ts 3),.int .i64 O[q].s,.int .i64 O[q].h]]).run Tryz.prog wr=.ok (.round l fn tmps assign body) wr:=hy;clear hy
   gi_wp2_with (refine hR.mono ?_;rintro en w5 (⟨rfl,h5,h6⟩ | ⟨rfl,h5⟩) <;> (have H5:=zC h5;clear h5 hR K5))
   ·have H6:=zC h6;clear h6
    gi_roundg q
    case measure=>omega
    case rel=>
     refine⟨q,by omega,rfl,by go_num,?_,(zA HK).trans (zA H6)⟩;rw[ziy hq];exact zA H5
   ·refine bodyPost_ret (v:=.tuple #[]) (results_none Tryz.results107 _ _ _) rfl ?_;exact⟨⟨_,rfl⟩,.inr ⟨_,trivial,zA H5⟩⟩
end
section
theorem zk3 {α:Type}:∀ (k:Ask α) (w:W8),w.drawn<=(w.ask k).2.drawn
 | .done a,w=>Nat.le_refl _
 | .ask what range k,w=>by
  rw[World.ask]
  split
  ·exact zk3 (k 0) w
  ·exact Nat.le_trans (Nat.le_succ _) (zk3 (k _) { w with drawn:=w.drawn+1 })
theorem zub (w:W8)(c:Sys):w.drawn<=(w.sys c).2.drawn:=by
 have h:=zk3 (Kernel.perform c w.os) w;unfold World.sys
 split
 ·exact Nat.le_refl _
 ·rename_i h1;rw[h1] at h;exact h
def yaq {α:Type}:Result α->W8
 | .ok _ w=>w
 | .halt _ w=>w
variable {v:Value} {a:Addr} {w w':W8} {p:Program}
theorem zm5 {b:Bool}{l:List Addr}(h:w.farStore p a v b=.ok (w',l)):w'.drawn=w.drawn:=by
 unfold World.farStore at h
 split at h
 ·split at h
  ·rename_i h1
   cases h
   simp only[World.viewStore,bind,Except.bind,pure,Except.pure] at h1
   repeat' split at h1
   all_goals first | (cases h1;done) | (cases h1;rfl) | skip
  ·cases h
 ·cases h
theorem zt0 {α:Type}(p:Program):∀ (m:Sem α) (w:W8),w.drawn<=(yaq (m.run p w)).drawn:=by
 intro m
 induction m with
 | pure a=>intro w;exact Nat.le_refl _
 | load m a k ih=>
  intro w;rw[Sem.run]
  split
  ·exact ih _ w
  ·split
   ·exact ih _ w
   ·exact Nat.le_refl _
 | store m a v k ih=>
  intro w
  have key:w.drawn<=(yaq (match w.cell? a with
   | some _ => if w.frozen? a then .halt (.unsupported (.unsafePointer "a write to bytes that a string shares")) w else k.run p (w.setCell a v)
   | none=>match w.farStore p a v (m==.atomic) with
    | .ok (w,_)=>k.run p w
    | .error h=>.halt h w)).drawn:=by
   split
   ·split
    ·exact Nat.le_refl _
    ·exact ih (w.setCell a v)
   ·split
    ·rename_i h1;have:=zm5 h1;exact Nat.le_trans (Nat.le_of_eq this.symm) (ih _)
    ·exact Nat.le_refl _
  cases v <;> first | exact Nat.le_refl _ | exact key
 | new o k ih=>intro w;exact ih _ { w with heap:=w.heap.push o }
 | shape r k ih=>intro w;exact ih _ w
 | freeze a n k ih=>
  intro w;have:(w.freeze a n).drawn=w.drawn:=by unfold World.freeze;split <;> rfl
  exact Nat.le_trans (Nat.le_of_eq this.symm) (ih (w.freeze a n))
 | frozen a k ih=>intro w;exact ih _ w
 | getObj r k ih=>
  intro w;rw[Sem.run]
  split
  ·exact Nat.le_refl _
  ·exact ih _ w
  ·exact Nat.le_refl _
 | setObj r o k ih=>
  intro w;rw[Sem.run]
  split
  ·exact Nat.le_refl _
  ·exact ih { w with heap:=w.heap.setIfInBounds r o }
  ·exact Nat.le_refl _
 | choose q k ih=>
  intro w;rw[Sem.run]
  split
  ·exact ih _ w
  ·exact Nat.le_trans (Nat.le_succ _) (ih _ { w with drawn:=w.drawn+1 })
 | sys c k ih=>intro w;exact Nat.le_trans (zub w c) (ih _ (w.sys c).2)
 | program k ih=>intro w;exact ih _ w
 | mark m k ih=>intro w;exact ih w
 | halt h=>intro w;exact Nat.le_refl _
theorem xT {α:Type}{m:Sem α}{a:α}(h:m.run p w=.ok a w'):w.drawn<=w'.drawn:=by
 have:=zt0 p m w;rw[h] at this;exact this
theorem xM {α:Type}{m:Sem α}{x:Halt}(h:m.run p w=.halt x w'):w.drawn<=w'.drawn:=by
 have:=zt0 p m w;rw[h] at this;exact this
def zbz:GStep->W8
 | .go _ w _=>w
 | .comm _ _ _ _ w _=>w
 | .spawn _ _ w _=>w
 | .count _ w _=>w
 | .timer _ _ w _=>w
 | .alone _ _ w _=>w
 | .newcoro _ _ _ w _=>w
 | .coroswitch _ _ _ w _=>w
 | .collect _ w _=>w
 | .watch _ w _=>w
 | .ended _ w _=>w
theorem qW (es:Array Event)(s:GStep):zbz (s.after es)=zbz s:=by cases s <;> rfl
theorem zc4 (p:Program)(fr:Frame)(v:Value)(w:W8):zbz (endPrinting p fr v w)=w:=by
 unfold endPrinting;simp only
 repeat' split
 all_goals rfl
theorem zp7 (w:W8)(fd:Nat)(t:B8)(o:Outcome):w.drawn<=(zbz (endWith w fd t o)).drawn:=by
 have h:=zub w (.write fd t);unfold endWith;simp only
 split
 ·rename_i h1;rw[h1] at h;split <;> exact h
 ·rename_i h1;rw[h1] at h;exact h
 ·rename_i h1;rw[h1] at h;exact h
theorem zgm (p:Program)(fr:Frame)(cs:List Frame)(d:Option Dying)(m:String)(w:W8):w.drawn<=(zbz (endFatal p fr cs d m w)).drawn:=by
 unfold endFatal;simp only
 split
 ·rename_i h;exact xT h
 ·rename_i h;exact xM h
 ·rename_i h;exact xM h
theorem zrm (p:Program)(fr:Frame)(d:Dying)(f:Fatal)(w:W8):w.drawn<=(zbz (writeOn p fr d f w)).drawn:=by
 unfold writeOn;simp only[Sem.runT_eq]
 split
 ·exact Nat.le_refl _
 ·split
  ·rename_i h;exact xT (Prod.mk.inj h).1
  ·rename_i h;exact xM (Prod.mk.inj h).1
  ·rename_i h;exact xM (Prod.mk.inj h).1
  ·rename_i h;exact xM (Prod.mk.inj h).1
theorem z2f (p:Program)(fr:Frame)(d:Dying)(w:W8):w.drawn<=(zbz (die p fr d w)).drawn:=by
 unfold die;simp only[Sem.runT_eq]
 split
 ·exact zrm _ _ _ _ _
 ·split
  ·split
   ·exact Nat.le_refl _
   ·exact zp7 _ _ _ _
  ·split
   ·exact Nat.le_refl _
   ·split
    ·rename_i h;exact xT h
    ·rename_i h;exact xM h
   ·rw[qW]
    split
    ·rename_i h;exact xT h
    ·rename_i h;exact xT h
    ·rename_i h;exact xM h
    ·rename_i h;rw[zc4];exact xM h
    ·exact Nat.le_refl _
   ·exact Nat.le_refl _
theorem zu7 (p:Program)(fr:Frame)(cs:List Frame)(d:Option Dying)(g:Nat)(w:W8):w.drawn<=(zbz (early p fr cs d g w)).drawn:=by
 unfold early;simp only
 repeat' split
 all_goals first | exact Nat.le_refl _ | (have h:=xT ‹Sem.run _ _ _=Result.ok _ _›;exact h) | (have h:=xM ‹Sem.run _ _ _=Result.halt _ _›;exact h)
theorem zcq (p:Program)(b:Bool)(fr:Frame)(cs:List Frame)(d:Option Dying)(v:Value)(w:W8):zbz (doReturn p b fr cs d v w)=w:=by
 unfold doReturn
 repeat' split
 all_goals rfl
theorem zho (p:Program)(fr:Frame)(cs:List Frame)(dy:Option Dying)(d:Deferred)(w:W8):w.drawn<=(zbz (callDeferred p fr cs dy d w)).drawn:=by
 unfold callDeferred;simp only[Sem.runT_eq];generalize (_&&_:Bool)=c
 split
 ·exact Nat.le_refl _
 ·rw[qW]
  split
  all_goals rename_i h
  all_goals first
   | exact xT h
   | exact xM h
   | exact Nat.le_trans (xM h) (zgm _ _ _ _ _ _)
   | (split <;> exact xT h)
theorem zuk (p:Program)(b:Bool)(fr:Frame)(cs:List Frame)(dy:Option Dying)(w:W8):w.drawn<=(zbz (unwind p b fr cs dy w)).drawn:=by
 unfold unwind;simp only[Sem.runT_eq]
 split
 ·rw[qW]
  split
  ·rename_i h;exact xT h
  ·rename_i h;exact xM h
 ·exact zho _ _ _ _ _ _
 ·split
  ·exact Nat.le_refl _
  ·split
   ·exact Nat.le_refl _
   ·split
    ·exact Nat.le_refl _
    ·split
     ·split
      ·exact Nat.le_refl _
      ·split
       ·rename_i h;exact xT h
       ·rename_i h;exact xM h
       ·rename_i h;exact xM h
     ·split
      ·rw[zc4];exact Nat.le_refl _
      ·exact Nat.le_refl _
  ·split
   ·rw[zcq];exact Nat.le_refl _
   ·rw[qW]
    split
    ·rename_i h;rw[zcq];exact xT h
    ·rename_i h;exact xM h
    ·rename_i h;exact xM h
theorem zgw (p:Program)(listen:Bool)(fr:Frame)(cs:List Frame)(dy:Option Dying)(m:Sem Next)(w:W8):w.drawn<=(zbz (stepG.apply p listen fr cs dy m w)).drawn:=by
 have e:(if listen=true then m.runT p w #[] else (m.run p w,#[])).1=m.run p w:=by split <;> simp
 unfold stepG.apply;simp only;generalize (if listen=true then m.runT p w #[] else (m.run p w,#[]))=r at e ⊢;obtain⟨r,es⟩:=r;simp only at e;subst e;simp only;rw[qW]
 split
 all_goals rename_i h
 all_goals first
  | exact xT h
  | exact xM h
  | exact Nat.le_trans (xM h) (zgm _ _ _ _ _ _)
  | exact Nat.le_trans (xM h) (zu7 _ _ _ _ _ _)
  | ((repeat' split);all_goals exact xT h)
theorem zzz (p:Program)(listen:Bool)(fr:Frame)(cs:List Frame)(dy:Option Dying)(w:W8):w.drawn<=(zbz (stepG.oper p listen fr cs dy w)).drawn:=by
 unfold stepG.oper
 split
 ·exact Nat.le_refl _
 ·split
  ·exact zgw _ _ _ _ _ _ _
  ·exact zgw _ _ _ _ _ _ _
theorem zzf (p:Program)(main listen:Bool)(fr:Frame)(cs:List Frame)(dy:Option Dying)(w:W8):w.drawn<=(zbz (stepG.exec p main listen fr cs dy w)).drawn:=by
 have nx:=zgw p listen;have bW:=zzz p listen;unfold stepG.exec;simp only[Sem.runT_eq];generalize stepG.apply p listen=ap at nx ⊢;generalize stepG.oper p listen=op at bW ⊢
 split
 all_goals first
  | exact Nat.le_refl _
  | exact nx _ _ _ _ _
  | skip
 all_goals try simp only[Option.elim]
 all_goals repeat' (first | rw[qW] | split)
 all_goals first
  | exact Nat.le_refl _
  | exact bW _ _ _ _
  | exact nx _ _ _ _ _
  | (have h:=xT ‹Sem.run _ _ _=Result.ok _ _›;exact h)
  | (have h:=xM ‹Sem.run _ _ _=Result.halt _ _›;exact h)
  | (rw[zcq];have h:=xT ‹Sem.run _ _ _=Result.ok _ _›;exact h)
  | (have h:=xT ‹Sem.run _ _ _=Result.ok _ _›;exact Nat.le_trans h (nx _ _ _ _ _))
theorem zwa (p:Program)(main:Bool)(g:Goroutine)(w:W8)(listen:Bool):w.drawn<=(zbz (stepG p main g w listen)).drawn:=by
 unfold stepG;simp only
 split
 ·exact z2f _ _ _ _
 ·exact zzf _ _ _ _ _ _ _
 ·exact zuk _ _ _ _ _ _
def sOk (n:Nat)(s:Stepped):Prop:=∀ m,s=.next m->n<=m.world.drawn
variable {m:Machine} {n:Nat}
theorem xI (h:n<=m.world.drawn):sOk n (.next m):=λ _ e=>by cases e;exact h
theorem xC {o:Outcome}:sOk n (.ended o w):=λ _ e=>by cases e
theorem zmx {rest:Rest}{cs:Array CommCase}(h:waitingAt rest cs w=some w'):w.drawn<=w'.drawn:=by
 unfold waitingAt at h
 split at h
 ·split at h
  ·cases h;exact Nat.le_refl _
  ·cases h
 ·cases h;exact Nat.le_refl _
theorem zi0 (p:Program)(rest:Rest)(gs:Array Goroutine)(i:Nat)(g:Goroutine)(tS:Array CommCase)(oH:Bool)(shape:CommShape)(w:W8):sOk w.drawn (communicate p rest gs i g tS oH shape w).1:=by
 unfold communicate;simp only
 repeat' split
 all_goals first
  | exact xC
  | exact xI L9
  | (have h:=xT ‹Sem.run _ _ _=Result.ok _ _›;exact xI h)
  | (have h:=zmx ‹waitingAt _ _ _=some _›;exact xI h)
  | (have h1:=xT ‹Sem.run _ _ _=Result.ok _ _›;have h2:=xM ‹Sem.run _ _ _=Result.halt _ _›;exact xI (Nat.le_trans h1 h2))
  | (have h1:=xT ‹Sem.run _ _ w=Result.ok _ _›;have h2:=xT ‹Sem.run _ (choose _) _=Result.ok _ _›;exact xI (Nat.le_trans h1 h2))
theorem zi6 (p:Program)(gs:Array Goroutine)(rest:Rest)(w:W8):sOk w.drawn (look p gs rest w):=by
 unfold look;simp only
 repeat' split
 all_goals first
  | exact xC
  | exact xI L9
  | (have h:=xT ‹Sem.run _ _ w=Result.ok _ _›;exact xI h)
theorem zv8 (p:Program)(m:Machine)(k:Nat):sOk m.world.drawn (serve p m k):=by
 unfold serve;simp only
 repeat' split
 all_goals first
  | exact xC
  | exact xI L9
  | (have h:=xT ‹Sem.run _ _ _=Result.ok _ _›;exact xI h)
theorem zu6 (w:W8)(c:Nat):(drain w c).2.drawn=w.drawn:=by
 unfold drain
 split <;> rfl
theorem zj5 (m:Machine)(k:Nat)(t:Timer)(a b:Nat):(retime m k t a b).2.world.drawn=m.world.drawn:=by
 unfold retime;simp only
 split
 ·exact zu6 _ _
 ·rfl
variable {m':Machine}
theorem zs9 (h:timerOp.opened m a=some m'):m.world.drawn<=m'.world.drawn:=by
 unfold timerOp.opened at h
 split at h
 ·split at h
  ·cases h;exact Nat.le_refl _
  ·cases h
 ·cases h;exact Nat.le_refl _
theorem zrj {op:TimerOp}(h:timerOp m op=.ok (v,m')):m.world.drawn<=m'.world.drawn:=by
 unfold timerOp timerOp.named at h
 repeat' split at h
 all_goals first
  | (cases h;done)
  | (cases h;exact Nat.le_refl _)
  | (have e:=congrArg (λ x=>(Prod.snd x).world.drawn) (Except.ok.inj h);simp only[zj5] at e;exact Nat.le_of_eq e)
  | (have h1:=zs9 ‹timerOp.opened _ _=some _›;have e:=congrArg (λ x=>(Prod.snd x).world.drawn) (Except.ok.inj h);simp only[zj5] at e;exact Nat.le_trans h1 (Nat.le_of_eq e))
theorem zmn (p:Program)(m:Machine)(i:Nat)(listen:Bool):sOk m.world.drawn (runT p m i listen).1:=by
 unfold runT;simp only;have h:=zwa p (i==0) (m.gs.swapAt! i { (default:Goroutine) with status:=.finished }).1 m.world listen;generalize stepG p (i==0) _ m.world listen=s at h ⊢
 cases s with
 | ended o w es=>exact xC
 | comm g cs b sh w es=>exact λ m' e=>Nat.le_trans h (zi0 _ _ _ _ _ _ _ _ _ m' e)
 | go g w es=>exact xI h
 | spawn g c w es=>exact xI h
 | count g w es=>
  simp only
  split
  ·exact xC
  ·exact xI h
 | alone g on w es=>exact xI h
 | collect g w es=>exact λ m' e=>Nat.le_trans h (zi6 _ _ _ _ m' e)
 | watch g w es=>exact xI h
 | newcoro g c d w es=>exact xI h
 | coroswitch g c ex w es=>
  simp only
  split
  ·exact xI h
  ·exact xI h
  ·exact xC
 | timer g op w es=>
  simp only
  split
  ·rename_i h1;exact xI (Nat.le_trans h (zrj h1))
  ·exact xI h
  ·exact xC
  ·exact xC
def Lc (n:Nat)(v:Move):Prop:=match v with
 | .goroutine m _=>n<=m.world.drawn
 | .machine s _=>sOk n s
theorem zgx (p:Program)(m:Machine):Lc m.world.drawn (askOn p m):=by
 unfold askOn;simp only
 split
 ·exact xC
 ·rename_i h0;have h0:=xT h0
  split
  ·exact λ m' e=>Nat.le_trans h0 (zv8 p _ _ m' e)
  ·split
   ·split
    ·exact xI h0
    ·split
     ·exact xI h0
     ·split <;> exact xC
   ·split
    ·split
     ·exact xC
     ·rename_i h1;have h1:=Nat.le_trans h0 (xT h1)
      split
      ·exact h1
      ·split
       ·exact xC
       ·rename_i h2;exact Nat.le_trans h1 (xT h2)
    ·split
     ·exact xC
     ·rename_i hc;have hc:=Nat.le_trans h0 (xT hc)
      split
      ·exact xC
      ·rename_i h1;have h1:=Nat.le_trans hc (xT h1)
       split
       ·exact h1
       ·split
        ·exact xC
        ·rename_i h2;exact Nat.le_trans h1 (xT h2)
     ·rename_i hc;have hc:=Nat.le_trans h0 (xT hc);exact xI hc
     ·rename_i hc;have hc:=Nat.le_trans h0 (xT hc)
      split
      ·exact xC
      ·rename_i h1;have h1:=xT h1;have h1:=Nat.le_trans hc h1
       split
       ·exact h1
       ·split
        ·exact xC
        ·rename_i h2;exact Nat.le_trans h1 (xT h2)
theorem Lc.mono {a b:Nat}{v:Move}(h:Lc b v)(Ao:a<=b):Lc a v:=by
 cases v with
 | goroutine m i=>exact Nat.le_trans Ao h
 | machine s ops=>exact λ m' e=>Nat.le_trans Ao (h m' e)
theorem zgk (p:Program)(m:Machine):Lc m.world.drawn (ask p m):=by
 unfold ask
 split
 ·split
  ·exact xC
  ·rename_i h;have h:=xT h
   split
   ·rename_i h1;exact (zgx p _).mono (Nat.le_trans h (zi6 _ _ _ _ _ h1))
   ·rename_i h1;exact λ m' e=>Nat.le_trans h (zi6 _ _ _ _ _ e)
  ·rename_i h;exact (zgx p _).mono (xT h)
 ·exact zgx p m
theorem zzw (p:Program)(m:Machine):Lc m.world.drawn (move p m):=by
 unfold move
 split
 ·split
  ·exact Nat.le_refl _
  ·exact xC
 ·split
  ·split
   ·exact Nat.le_refl _
   ·exact zgk p _
  ·exact zgk p m
theorem z0y (h:step p m=.next m'):m.world.drawn<=m'.world.drawn:=by
 have hm:=zzw p m;unfold step stepT at h
 split at h
 ·rename_i m1 i h1;rw[h1] at hm;exact Nat.le_trans hm (zmn p m1 i _ m' h)
 ·rename_i s ops h1;rw[h1] at hm;exact hm m' h
theorem zpg {p:Program}:∀ (n:Nat) {m m':Machine},runN p n m=.next m'->m.world.drawn<=m'.world.drawn
 | 0,m,m',h=>by rw[runN] at h;cases h;exact Nat.le_refl _
 | n+1,m,m',h=>by
  rw[runN] at h
  split at h
  ·rename_i m1 h1;exact Nat.le_trans (z0y h1) (zpg n h)
  ·rename_i h1;exact absurd h (λ e=>h1 m' e)
theorem zu0 {f:FuncId}{args:Array Value}{R:Ending->W8->Prop}(h:Calls p f args w R):Calls p f args w λ e w'=>R e w'/\(∀ v,e=.returned v->w.drawn<=w'.drawn):=λ cs=>by
 obtain⟨e,w',fr,h1,h2,h3⟩:=h cs;refine⟨e,w',fr,⟨h1,λ v hv=>?_⟩,h2,h3⟩;subst hv;obtain⟨n,hn⟩:=h2;exact zpg n hn
end
section
open Go.RowKit
theorem z7d (TX:B8->B8->B8->B8->B8->B8->Prop)(w:W8)(p0 p1 p2 p3 p4 q0 q1 q2 q3 q4 tp tq:B8)(s1 h1 s2 h2:Nat)(hp:TX p0 p1 p2 p3 p4 tp)(hq:TX q0 q1 q2 q3 q4 tq)
  (HT:∀ (x0 x1 x2 x3 x4 t:B8),TX x0 x1 x2 x3 x4 t->∀ W:W8,Calls Tryz.prog 63 #[.agg #[.string x0,.string x1,.string x2,.string x3,.string x4]] W λ e w'=>e=.returned (.string t)/\Below W.heap.size W w'):
  Calls Tryz.prog 106 #[.agg #[.string p0,.string p1,.string p2,.string p3,.string p4,.int .i64 s1,.int .i64 h1],.agg #[.string q0,.string q1,.string q2,.string q3,.string q4,.int .i64 s2,.int .i64 h2]] w λ e w'=>e=.returned (.int .i64 (orC (zol s1 s2) (zol h1 h2) (zw7 tp tq)))/\Below w.heap.size w w':=by
 have T1:=zC HT;have C1:=zC zju;have C3:=zC (λ W=>zu3 tp tq W);have O3:=zC (λ (W:W8) (a b c:Int)=>ycd (W.alloc (.cells #[.int .i64 a,.int .i64 b,.int .i64 c] 3)) W.heap.size a b c (heap_alloc_new W _));clear HT;generalize zw7 tp tq=r3 at *;go_enter Tryz.func106,Tryz.ntmps106;go_upto_region 1 with fail;generalize hw0:World.alloc (World.alloc w _) _=w0;have k0:Below w.heap.size w w0:=by
  rw[<-hw0];exact ((Below.refl w.heap.size w).alloc L9 _).alloc (by simp) _
 have x0:w0.heap[w.heap.size]?=some (.cells #[.string p0,.string p1,.string p2,.string p3,.string p4,.int .i64 s1,.int .i64 h1] 148 (0,0)):=by
  rw[<-hw0,Below.heap_alloc _ _ _ (by simp)];exact heap_alloc_new w _
 have x1:w0.heap[w.heap.size+1]?=some (.cells #[.string q0,.string q1,.string q2,.string q3,.string q4,.int .i64 s2,.int .i64 h2] 148 (0,0)):=by
  rw[<-hw0];have:=heap_alloc_new (w.alloc (.cells #[.string p0,.string p1,.string p2,.string p3,.string p4,.int .i64 s1,.int .i64 h1] 148)) (.cells #[.string q0,.string q1,.string q2,.string q3,.string q4,.int .i64 s2,.int .i64 h2] 148);rw[World.size_alloc] at this;exact this
 clear hw0;have cq:=zC k0
 have HA:=zC (λ (W:W8) (hW:Below w0.heap.size w0 W)=>(show W.cell? ⟨w.heap.size,0,none⟩=some (.string p0)/\W.cell? ⟨w.heap.size,1,none⟩=some (.string p1)/\W.cell? ⟨w.heap.size,2,none⟩=some (.string p2)/\W.cell? ⟨w.heap.size,3,none⟩=some (.string p3)/\W.cell? ⟨w.heap.size,4,none⟩=some (.string p4)/\W.cell? ⟨w.heap.size,5,none⟩=some (.int .i64 s1)/\W.cell? ⟨w.heap.size,6,none⟩=some (.int .i64 h1)/\W.cell? ⟨w.heap.size+1,0,none⟩=some (.string q0)/\W.cell? ⟨w.heap.size+1,1,none⟩=some (.string q1)/\W.cell? ⟨w.heap.size+1,2,none⟩=some (.string q2)/\W.cell? ⟨w.heap.size+1,3,none⟩=some (.string q3)/\W.cell? ⟨w.heap.size+1,4,none⟩=some (.string q4)/\W.cell? ⟨w.heap.size+1,5,none⟩=some (.int .i64 s2)/\W.cell? ⟨w.heap.size+1,6,none⟩=some (.int .i64 h2) from by
  have y0:=(hW.block _ (Array.getElem?_eq_some_iff.1 x0).1).trans x0;have y1:=(hW.block _ (Array.getElem?_eq_some_iff.1 x1).1).trans x1
  exact⟨(zB y0 0).1,(zB y0 1).1,(zB y0 2).1,(zB y0 3).1,(zB y0 4).1,(zB y0 5).1,(zB y0 6).1,(zB y1 0).1,(zB y1 1).1,(zB y1 2).1,(zB y1 3).1,(zB y1 4).1,(zB y1 5).1,(zB y1 6).1⟩))
 clear x0 x1 k0;have Ly:Below w0.heap.size w0 w0.drew:=B9.drew
 go_region_held3 (λ W=>W.cell? ⟨w.heap.size,0,none⟩=some (.string p0)/\W.cell? ⟨w.heap.size,1,none⟩=some (.string p1)/\W.cell? ⟨w.heap.size,2,none⟩=some (.string p2)/\W.cell? ⟨w.heap.size,3,none⟩=some (.string p3)/\W.cell? ⟨w.heap.size,4,none⟩=some (.string p4)/\W.cell? ⟨w.heap.size,5,none⟩=some (.int .i64 s1)/\W.cell? ⟨w.heap.size,6,none⟩=some (.int .i64 h1)/\W.cell? ⟨w.heap.size+1,0,none⟩=some (.string q0)/\W.cell? ⟨w.heap.size+1,1,none⟩=some (.string q1)/\W.cell? ⟨w.heap.size+1,2,none⟩=some (.string q2)/\W.cell? ⟨w.heap.size+1,3,none⟩=some (.string q3)/\W.cell? ⟨w.heap.size+1,4,none⟩=some (.string q4)/\W.cell? ⟨w.heap.size+1,5,none⟩=some (.int .i64 s2)/\W.cell? ⟨w.heap.size+1,6,none⟩=some (.int .i64 h2)) ((refine zA HA _ ?_;first | exact Ly | exact bY | exact gi | exact gi.alloc gi.size _)) ((first
  | (go_at_call 161;refine (zA C1 _ _ _).mono ?_;rintro en wx ⟨rfl,nN⟩;subst nN)
  | (go_at_call 63;refine (zA T1 _ _ _ _ _ _ (by assumption) _).mono ?_;rintro en wT ⟨rfl,Cq⟩;first | (have gi:Below w0.heap.size w0 wT:=bY.trans (Cq.mono bY.size)) | (have bY:Below w0.heap.size w0 wT:=zL Cq);clear Cq)
  | (go_at_call 162;refine (zA C3 _).mono ?_;rintro en wx ⟨rfl,nN⟩;subst nN)
  | (go_at_call 160;refine (zA O3 _ _ _ _).mono ?_;rintro en wx ⟨rfl,nN⟩;subst nN)))
 all_goals
  go_wp2_with fail;go_ret;exact⟨rfl,(zA cq).trans ((gi.alloc gi.size _).mono (zA cq).size)⟩
def M9 (p q:Pl):Int:=orC (zol p.s q.s) (zol p.h q.h) (zw7 (yF p.t) (yF q.t))
theorem zy3 (w:W8)(p q:Pl)(hp:zbk p.t)(hq:zbk q.t)(lp:(j2 p.t.1 (xE p.t)).length<=1000000000)(lq:(j2 q.t.1 (xE q.t)).length<=1000000000):
  Calls Tryz.prog 106 #[plV p,plV q] w λ e w'=>e=.returned (.int .i64 (M9 p q))/\Below w.heap.size w w':=
 z7d (λ x0 x1 x2 x3 x4 t=>∃ y:Th,zbk y/\(j2 y.1 (xE y)).length<=1000000000/\y.p=x0/\xF y.ts 0=x1/\xF y.ts 1=x2/\xF y.ts 2=x3/\xF y.ts 3=x4/\yF y=t) w _ _ _ _ _ _ _ _ _ _ _ _ p.s p.h q.s q.h ⟨p.t,hp,lp,rfl,rfl,rfl,rfl,rfl,rfl⟩ ⟨q.t,hq,lq,rfl,rfl,rfl,rfl,rfl,rfl⟩ (λ x0 x1 x2 x3 x4 t ⟨y,h1,h2,e0,e1,e2,e3,e4,e5⟩ W=>by subst e0 e1 e2 e3 e4 e5;exact zps W y h1 h2)
theorem zm6 {w w':W8}(h:Below w.heap.size w w')(hd:w.drawn<=w'.drawn):∃ q os,w'=Sort.grow (w.drewN q) os:=by
 refine⟨w'.drawn-w.drawn,w'.heap.extract w.heap.size w'.heap.size,?_⟩;obtain⟨h1,h2,h3,h4,h5⟩:=h
 cases w' with
 | mk heap tape drawn os output=>
  simp only at h1 h2 h3 h4 h5 hd;subst h1 h2 h3;unfold Sort.grow World.drewN;simp only
  congr 1
  ·apply Array.ext_getElem?;intro i;rw[Array.getElem?_append]
   split
   ·rename_i hi;exact h5 i hi
   ·rename_i hi;rw[Array.getElem?_extract]
    split
    ·congr 1;omega
    ·rw[Array.getElem?_eq_none (by omega)]
  ·omega
end
end Go.Proofs.YtldkpahaocjdpaaGreat
