/-
  cmp.Compare over numbers, slices.Compare over rows of them, cmp.Or.
-/
import Derived.Test.YtldkpahaocjdpaaGreatO29
import Derived.Sort.LoopGhostIn
import Derived.Test.YtldkpahaocjdpaaGreatO32
set_option maxHeartbeats 16000000
set_option maxRecDepth 1000000
namespace Go.Proofs.YtldkpahaocjdpaaGreat
section
open Go.RowKit
def cO (l:List Nat):V8:=l.map λ (x:Nat)=>Value.int .i64 x
theorem numAt {w:W8}{base:Nat}{a:O8}{c:Nat}{xs:List Nat}(h:w.ownsRow base 3 1 (.slice a xs.length c) xs.length (cO xs))(k:Nat)(hk:k<xs.length):∃ g,a=some ⟨g,0,none⟩/\g<w.heap.size/\xs.length<=c/\c<=maxLen/\w.cell? ⟨g,k,none⟩=some (.int .i64 xs[k]):=by
 rcases h.2 with⟨_,h0⟩ | ⟨g,cap,cur,hv,hb,hg,dG,dx,eZ,ht⟩
 ·omega
 ·injection hv with h1 h2 h3
  subst h1 h3;refine⟨g,rfl,(Array.getElem?_eq_some_iff.1 hg).1,dG,dx,?_⟩;rw[h.cellAt k (by omega)];unfold cO;rw[List.getElem?_map,List.getElem?_eq_getElem hk];rfl
theorem isNaNI_any (x:Int)(w:W8):Calls Tryz.prog 216 #[.int .i64 x] w λ e w'=>e=.returned (.bool false)/\w'=w:=by
 go_enter Tryz.func216,Tryz.ntmps216;go_wp2_with fail;go_ret;exact⟨by simp,rfl⟩
theorem compareI_any (x y:Nat)(w:W8):Calls Tryz.prog 161 #[.int .i64 x,.int .i64 y] w λ e w'=>e=.returned (.int .i64 (cmpN x y))/\w'=w:=by
 have hn:=isNaNI_any
 by_cases h1:x<y
 ·have HC:=hide (show cmpN x y=-1 by unfold cmpN;rw[if_pos h1]);have hi:(x:Int)<y:=by omega
  clear h1;go_enter Tryz.func161,Tryz.ntmps161;go_wp2_with (go_at_call 216;refine (hn _ _).mono ?_;rintro e w' ⟨rfl,rfl⟩);go_ret;exact⟨by rw[ad HC];rfl,rfl⟩
 ·by_cases h2:y<x
  ·have HC:=hide (show cmpN x y=1 by unfold cmpN;rw[if_neg h1,if_pos h2]);have hi:¬ (x:Int)<y:=(by omega);have hj:(y:Int)<x:=(by omega);clear h1 h2;go_enter Tryz.func161,Tryz.ntmps161;go_wp2_with (go_at_call 216;refine (hn _ _).mono ?_;rintro e w' ⟨rfl,rfl⟩);go_ret;exact⟨by rw[ad HC];rfl,rfl⟩
  ·have HC:=hide (show cmpN x y=0 by unfold cmpN;rw[if_neg h1,if_neg h2]);have hi:¬ (x:Int)<y:=(by omega);have hj:¬ (y:Int)<x:=(by omega);clear h1 h2;go_enter Tryz.func161,Tryz.ntmps161;go_wp2_with (go_at_call 216;refine (hn _ _).mono ?_;rintro e w' ⟨rfl,rfl⟩);go_ret;exact⟨by rw[ad HC];rfl,rfl⟩
theorem lexC_step {x y:List Nat}{k:Nat}(hx:k<x.length)(hy:k<y.length):lexC (x.drop k) (y.drop k)=if cmpN x[k] y[k]=0 then lexC (x.drop (k+1)) (y.drop (k+1)) else cmpN x[k] y[k]:=by
 rw[List.drop_eq_getElem_cons hx,List.drop_eq_getElem_cons hy,lexC]
theorem compareL_any (w:W8)(base base':Nat)(a b:O8)(c d:Nat)(x y:List Nat)(hx:w.ownsRow base 3 1 (.slice a x.length c) x.length (cO x))(hy:w.ownsRow base' 3 1 (.slice b y.length d) y.length (cO y)):
  Calls Tryz.prog 166 #[.slice a x.length c,.slice b y.length d] w λ e w'=>e=.returned (.int .i64 (lexC x y))/\w'=w:=by
 have HX:=hide hx;have HY:=hide hy;have m1:=own_max hx;have m2:=own_max hy;unfold maxLen at m1 m2;clear hx hy;go_enter Tryz.func166,Tryz.ntmps166;go_wp2_with fail
 go_loop [11] (λ i=>∃ k:Nat,k<=x.length/\k<=y.length/\i=.int .i64 k/\lexC (x.drop k) (y.drop k)=lexC x y) (λ i=>x.length-(intOf i).toNat)
 exact⟨0,Nat.zero_le _,Nat.zero_le _,rfl,rfl⟩
 case round=>
  obtain⟨k,hk,cN,rfl,bj⟩:=hrel;have HF:=hide bj;clear bj
  by_cases aN:k<x.length
  ·obtain⟨g,rfl,nB,dG,dx,hc⟩:=numAt (ad HX) k aN;have gW:(k:Int)<x.length:=by omega
   by_cases lG:k<y.length
   ·obtain⟨g2,rfl,dd,JP,Je,nA⟩:=numAt (ad HY) k lG;have CJ:(k:Int)<y.length:=(by omega);have HS:=hide (lexC_step aN lG);have HC:=hide (λ w=>compareI_any x[k] y[k] w);generalize x[k]=xk at *;generalize y[k]=yk at *
    by_cases h0:cmpN xk yk=0
    ·have HE:=hide (show lexC (x.drop (k+1)) (y.drop (k+1))=lexC x y by rw[<-ad HF,ad HS,if_pos h0]);rw[h0] at HC;clear h0;go_wp2_with (go_at_call 161;refine (ad HC _).mono ?_;rintro e w' ⟨rfl,rfl⟩)
     go_round
     case rel=>exact⟨k+1,by omega,by omega,by go_num,ad HE⟩
     case measure=>simp[intOf];omega
    ·have HE:=hide (show lexC x y=cmpN xk yk by rw[<-ad HF,ad HS,if_neg h0]);generalize cmpN xk yk=r at *;go_wp2_with (go_at_call 161;refine (ad HC _).mono ?_;rintro e w' ⟨rfl,rfl⟩);go_ret;exact⟨by rw[ad HE];rfl,rfl⟩
   ·have CJ:¬ (k:Int)<y.length:=(by omega);have hle:(y.length:Int)<=k:=(by omega);have HE:=hide (show lexC x y=1 by rw[<-ad HF,List.drop_eq_getElem_cons aN,List.drop_of_length_le (l:=y) (by omega)];rfl);go_wp2_with fail;go_ret;exact⟨by rw[ad HE];rfl,rfl⟩
  ·have gW:¬ (k:Int)<x.length:=by omega
   by_cases lG:x.length<y.length
   ·have qj:(x.length:Int)<y.length:=(by omega);have HE:=hide (show lexC x y=-1 by rw[<-ad HF,List.drop_of_length_le (l:=x) (by omega),List.drop_eq_getElem_cons (l:=y) (by omega)];rfl);go_wp2_with fail;go_ret;exact⟨by rw[ad HE];rfl,rfl⟩
   ·have qj:¬ (x.length:Int)<y.length:=(by omega);have HE:=hide (show lexC x y=0 by rw[<-ad HF,List.drop_of_length_le (l:=x) (by omega),List.drop_of_length_le (l:=y) (by omega)];rfl);go_wp2_with fail;go_ret;exact⟨by rw[ad HE];rfl,rfl⟩
def orC (a b c:Int):Int:=if a≠0 then a else if b≠0 then b else c
theorem or3_any (w:W8)(g:Nat)(a b c:Int)(h:w.heap[g]?=some (.cells #[.int .i64 a,.int .i64 b,.int .i64 c] 3 (0,0))):
  Calls Tryz.prog 160 #[.slice (some ⟨g,0,none⟩) 3 3] w λ e w'=>e=.returned (.int .i64 (orC a b c))/\w'=w:=by
 have c0:=(block_cells h 0).1;have c1:=(block_cells h 1).1;have c2:=(block_cells h 2).1;simp only[List.getElem?_toArray,List.getElem?_cons_zero,List.getElem?_cons_succ] at c0 c1 c2;have hg:=(Array.getElem?_eq_some_iff.1 h).1;clear h;go_enter Tryz.func160,Tryz.ntmps160;go_wp2_with fail
 go_loop [8] (λ i=>∃ k:Nat,k<=3/\i=.int .i64 k/\(0<k->a=0)/\(1<k->b=0)/\(2<k->c=0)) (λ i=>3-(intOf i).toNat)
 exact⟨0,by omega,rfl,by omega,by omega,by omega⟩
 case round=>
  obtain⟨k,hk,rfl,h0,h1,h2⟩:=hrel
  match k,hk with
  | 0,_=>
   clear h0 h1 h2
   by_cases ha:a=0
   ·go_wp2_with fail
    go_round
    case rel=>exact⟨1,by omega,by go_num,λ _=>ha,by omega,by omega⟩
    case measure=>simp[intOf]
   ·have HE:=hide (show orC a b c=a by unfold orC;rw[if_pos ha]);go_wp2_with fail;go_ret;exact⟨by rw[ad HE];rfl,rfl⟩
  | 1,_=>
   have ha:=h0 (by omega);have HA:=hide ha;clear h0 h1 h2 ha
   by_cases hb:b=0
   ·go_wp2_with fail
    go_round
    case rel=>exact⟨2,by omega,by go_num,λ _=>ad HA,λ _=>hb,by omega⟩
    case measure=>simp[intOf]
   ·have HE:=hide (show orC a b c=b by unfold orC;rw[if_neg (by simp[ad HA]),if_pos hb]);go_wp2_with fail;go_ret;exact⟨by rw[ad HE];rfl,rfl⟩
  | 2,_=>
   have HA:=hide (h0 (by omega));have HB:=hide (h1 (by omega));clear h0 h1 h2
   by_cases hc:c=0
   ·go_wp2_with fail
    go_round
    case rel=>exact⟨3,by omega,by go_num,λ _=>ad HA,λ _=>ad HB,λ _=>hc⟩
    case measure=>simp[intOf]
   ·have HE:=hide (show orC a b c=c by unfold orC;rw[if_neg (by simp[ad HA]),if_neg (by simp[ad HB])]);go_wp2_with fail;go_ret;exact⟨by rw[ad HE];rfl,rfl⟩
  | 3,_=>
   have HE:=hide (show orC a b c=0 by unfold orC;rw[if_neg (by simp[h0]),if_neg (by simp[h1])];exact h2 (by omega));clear h0 h1 h2;go_wp2_with fail;go_ret;exact⟨by rw[ad HE];rfl,rfl⟩
end
section
open Go.RowKit
def fCells (n:Nat)(f:Nat->Value):Array Value:=((List.range n).map f).toArray
theorem ca (n:Nat)(f:Nat->Value):(fCells n f).size=n:=by simp[fCells]
variable {i n:Nat} {f:Nat->Value}
theorem fCells_get (h:i<n):(fCells n f)[i]?=some (f i):=by
 simp[fCells,h]
theorem fCells_made (n:Nat)(z:Value):madeCells #[z] n=fCells n (λ _=>z):=by
 apply Array.ext_getElem?;intro i
 by_cases h:i<n
 ·rw[made_get z n i h,fCells_get h]
 ·rw[Array.getElem?_eq_none (by simp[madeCells];omega),Array.getElem?_eq_none (by rw[ca];omega)]
variable {v:Value}
theorem fCells_set:(fCells n f).setIfInBounds i v=fCells n (λ j=>if j=i then v else f j):=by
 apply Array.ext_getElem?;intro j;rw[Array.getElem?_setIfInBounds]
 by_cases h:j<n
 ·rw[fCells_get h,fCells_get h]
  split
  ·rename_i e;subst e;rw[if_pos (by rw[ca];exact h),if_pos rfl]
  ·rename_i e;rw[if_neg (λ e'=>e e'.symm)]
 ·rw[Array.getElem?_eq_none (xs:=fCells n f) (by rw[ca];omega),Array.getElem?_eq_none (by rw[ca];omega)]
  split
  ·rename_i e;subst e;rw[if_neg (by rw[ca];exact h)]
  ·rfl
variable {g:Nat->Value}
theorem fCells_eq (h:∀ i,i<n->f i=g i):fCells n f=fCells n g:=by
 unfold fCells;rw[List.map_congr_left λ i hi=>h i (List.mem_range.1 hi)]
def bU (w:W8)(b:Nat)(T:TypeId)(n:Nat)(f:Nat->Value):Prop:=w.heap[b]?=some (.cells (fCells n f) T (0,0))
theorem bU.start (w:W8)(T:TypeId)(n:Nat)(z:Value):bU (w.alloc (.cells (madeCells #[z] n) T)) w.heap.size T n (λ _=>z):=by
 unfold bU;rw[<-fCells_made];exact heap_alloc_new w _
variable {T:TypeId} {b:Nat} {w:W8}
theorem bU.set (h:bU w b T n f)(i:Nat)(v:Value):bU (w.setCell ⟨b,i,none⟩ v) b T n (λ j=>if j=i then v else f j):=by
 unfold bU;rw[setCell_eq_setRow w b i _ T (0,0) v h,<-fCells_set];exact setRow_heap _ _ _ _ _ _ h
theorem bU.cell (h:bU w b T n f)(hi:i<n):w.cell? ⟨b,i,none⟩=some (f i):=by
 rw[(block_cells h i).1,fCells_get hi]
theorem bU.fz (h:bU w b T n f)(i:Nat):w.frozen? ⟨b,i,none⟩=false:=(block_cells h i).2
theorem bU.lt (h:bU w b T n f):b<w.heap.size:=(Array.getElem?_eq_some_iff.1 h).1
theorem bU.eq (h:bU w b T n f)(e:∀ i,i<n->f i=g i):bU w b T n g:=by
 unfold bU at h ⊢;rw[h,fCells_eq e]
variable {w':W8}
theorem bU.block (h:bU w b T n f)(e:w'.heap[b]?=w.heap[b]?):bU w' b T n f:=e.trans h
theorem bU.below (h:bU w b T n f)(k:Below w.heap.size w w'):bU w' b T n f:=(k.block b h.lt).trans h
theorem bU.cO {w:W8}{b n:Nat}{g:Nat->Nat}(h:bU w b 3 n (λ i=>.int .i64 (g i:Nat)))(hn:n<=maxLen){base:Nat}(hb:base<=b):w.ownsRow base 3 1 (.slice (some ⟨b,0,none⟩) n n) n (cO ((List.range n).map g)):=by
 refine⟨by simp[Go.Proofs.YtldkpahaocjdpaaGreat.cO],.inr ⟨b,n,_,rfl,hb,h,Nat.le_refl _,hn,by rw[ca];omega,?_⟩⟩;simp only[fCells,Go.Proofs.YtldkpahaocjdpaaGreat.cO,List.map_map,Nat.mul_one];rw[List.take_of_length_le (by simp)];rfl
variable {row:Option Nat} {A B:W8}
theorem cells_grown {cs:Array Value}{t:TypeId}{fr:Nat × Nat}(h:A.heap[b]?=some (.cells cs t fr))(hg:A.grownBy B row)(hr:∀ i,row=some i->∃ o:Obj,A.heap[i]?=some o/\o.isCells=false):B.heap[b]?=some (.cells cs t fr):=
 (hg.block b (Array.getElem?_eq_some_iff.1 h).1 (λ e=>by obtain⟨o,ho,hc⟩:=hr b e.symm;rw[h] at ho;cases ho;cases hc)).trans h
theorem own_grown {base:Nat}{e:TypeId}{size:Nat}{xs:V8}(h:A.ownsRow base e size v n xs)(hg:A.grownBy B row)(hr:∀ i,row=some i->∃ o:Obj,A.heap[i]?=some o/\o.isCells=false):B.ownsRow base e size v n xs:=by
 refine own_block h λ g jo=>?_
 rcases h.2 with⟨h0,_⟩ | ⟨g',cap,cur,rfl,hb,dn,_⟩
 ·rw[h0] at jo;cases jo
 ·have e:g'=g:=by simpa[Value.ownBlock] using jo
  subst e;rw[cells_grown dn hg hr,dn]
theorem aR.setCell {No:Nat->Prop}{a:W8}(h:aR No a w){j:Nat}(hb:a.heap.size<=b\/No b)(v:Value):aR No a (w.setCell ⟨b,j,none⟩ v):=
 ⟨h.os,h.tape,h.output,by simpa using h.size,λ i o hi hn ho=>by
  have h1:=h.same i o hi hn ho;have bG:i≠b:=λ e=>by
   subst e;rcases hb with hb | hb
   ·have:=(Array.getElem?_eq_some_iff.1 hi).1;omega
   ·exact hn hb
  rw[Below.heap_setCell _ _ _ _ (by simpa using bG)]
  exact h1⟩
end
section
open Go.RowKit
structure Pl where
 t:Th
 s:Nat
 h:Nat
instance:Inhabited Pl:=⟨⟨({ data:=#[] },[]),0,0⟩⟩
def bM (p:Pl):V8:=[.string p.t.p,.string (nth4 p.t.ts 0),.string (nth4 p.t.ts 1),.string (nth4 p.t.ts 2),.string (nth4 p.t.ts 3),.int .i64 p.s,.int .i64 p.h]
def plV (p:Pl):Value:=.agg (bM p).toArray
theorem plaC_len (p:Pl):(bM p).length=7:=rfl
theorem plaC_ones (p:Pl):∀ v∈bM p,v.oneCell'=true:=by
 intro v hv;simp[bM] at hv;rcases hv with rfl | rfl | rfl | rfl | rfl | rfl | rfl <;> rfl
def underP (p q:Pl):Bool:=decide (p.s<q.s)||(decide (p.s=q.s)&&decide (p.h<q.h))
theorem under_any (w:W8)(p q:Pl):
  Calls Tryz.prog 163 #[plV p,plV q] w λ e w'=>e=.returned (.bool (underP p q))/\Below w.heap.size w w':=by
 have b0:=((Below.refl w.heap.size w).alloc L9 (.cells (bM p).toArray 148)).alloc (by simp) (.cells (bM q).toArray 148);have gd:=hide b0;clear b0;unfold plV
 by_cases h1:p.s<q.s
 ·have HE:=hide (show underP p q=true by unfold underP;simp[h1]);have hi:(p.s:Int)<q.s:=by omega
  clear h1;unfold bM at gd ⊢;go_enter Tryz.func163,Tryz.ntmps163;go_wp2_with fail;go_ret;exact⟨by rw[ad HE];rfl,ad gd⟩
 ·by_cases h2:p.s=q.s
  ·have HE:=hide (show underP p q=decide (p.h<q.h) by unfold underP;simp[h2]);have hi:¬ (p.s:Int)<q.s:=(by omega);clear h1;unfold bM at gd ⊢;rw[h2] at hi gd ⊢;clear h2;go_enter Tryz.func163,Tryz.ntmps163;go_wp2_with fail
   all_goals go_ret
   all_goals exact⟨by rw[ad HE];simp,ad gd⟩
  ·have HE:=hide (show underP p q=false by unfold underP;simp[h1,h2]);have hi:¬ (p.s:Int)<q.s:=(by omega);have hj:¬ (p.s:Int)=q.s:=(by omega);clear h1 h2;unfold bM at gd ⊢;go_enter Tryz.func163,Tryz.ntmps163;go_wp2_with fail;go_ret;exact⟨by rw[ad HE];rfl,ad gd⟩
end
section
open Go.RowKit Go.Maps
def backs (n m:Nat):List (Fin n):=((List.finRange n).drop m).reverse
theorem gQ (n:Nat):backs n n=[]:=by unfold backs;rw[List.drop_of_length_le (by simp)];rfl
theorem backs_step {n m:Nat}(h:m<n):backs n m=backs n (m+1)++[⟨m,h⟩]:=by
 unfold backs;rw[List.drop_eq_getElem_cons (by simpa using h),List.reverse_cons];simp
theorem backs_len (n m:Nat):(backs n m).length=n-m:=by unfold backs;simp
theorem back_any (w:W8)(a:O8)(n c:Nat):
  Calls Tryz.prog 68 #[.slice a n c] w λ e w'=>e=.returned (.func (.func 107) #[] #[.pointer (some ⟨w.heap.size,0,none⟩)])/\w'=w.alloc (.cells #[.slice a n c] 141):=by
 go_enter Tryz.func68,Tryz.ntmps68;go_wp2_with fail;go_ret;exact⟨rfl,rfl⟩
theorem back_stops (No:Nat->Prop)(n:Nat)(w:W8)(sb bo:Nat)(ao:O8)(co:Nat)(O:List Pl)(hs:w.heap[sb]?=some (.cells #[.slice ao O.length co] 141 (0,0)))(ho:w.ownsRow bo 148 7 (.slice ao O.length co) O.length (O.flatMap bM))(lH:¬ No sb)(FN:∀ g,(Value.slice ao O.length co).ownBlock=some g->¬ No g)(hl:O.length<=1000):
  SeqStopsK Fence.wide n Tryz.prog 107 #[.pointer (some ⟨sb,0,none⟩)] (λ x:Fin O.length=>#[.int .i64 (x.1:Nat),plV O[x]]) (aR No) (λ xs=>xs=backs O.length 0) (λ _=>True) O.length w:=by
 intro l J Jx W hW hJ hJx hY h0;have js:=(hW.block sb (Array.getElem?_eq_some_iff.1 hs).1).trans hs;have za:=own_below ho hW (λ g e=>(ho.lt g e).2);have c0:=(block_cells js 0).1;simp only[List.getElem?_toArray,List.getElem?_cons_zero] at c0;have HS:=hide js;have HO:=hide za;have HY:=hide hY;have H0:=hide h0;have vu:=hide lH;have Hr:=hide FN;clear hs ho hY h0 lH FN hW hJ hJx js za;refine callsIn_wide.2 ?_;go_enter Tryz.func107,Tryz.ntmps107;go_upto_region 1 with fail;refine (wpIn_wide (n:=2)).1 ?_
 gi_loopg [3] O.length (λ gg i wr=>∃ m:Nat,m<=O.length/\gg=m/\i=.int .i64 ((m:Int)-1)/\J (backs O.length m) wr/\aR No W wr)
 exact⟨O.length,Nat.le_refl _,rfl,rfl,by rw[gQ];exact ad H0,aR.refl _ _⟩
 case round=>
  clear H0 c0;obtain⟨m,hm,hgm,rfl,hj,hk⟩:=hrel;have HJ:=hide hj;have HK:=hide hk;have c0:=(block_cells (hk.cells (ad HS) (ad vu)) 0).1;simp only[List.getElem?_toArray,List.getElem?_cons_zero] at c0;have aE:=hk.row (ad HO) (ad Hr);clear hj hk
  cases m with
  | zero=>
   have hz:¬ (0:Int)<=((0:Nat):Int)-1:=(by omega);clear aE c0
   gi_wp2
   go_end0;exact⟨⟨_,rfl⟩,.inl (ad HJ)⟩
  | succ q=>
   have hq:q<O.length:=(by omega);rw[show (((q+1:Nat):Int)-1)=(q:Int) by omega];obtain⟨g,cap,hv,iC,dp,dG,dx,hc⟩:=row_at plaC_len aE q hq;injection hv with h1 h2 h3
   subst h1 h3;have d0:wr.cell? ⟨g,q*7,none⟩=some (.string O[q].t.p):=hc 0 (by omega);have d1:wr.cell? ⟨g,q*7+1,none⟩=some (.string (nth4 O[q].t.ts 0)):=hc 1 (by omega);have d2:wr.cell? ⟨g,q*7+2,none⟩=some (.string (nth4 O[q].t.ts 1)):=hc 2 (by omega);have d3:wr.cell? ⟨g,q*7+3,none⟩=some (.string (nth4 O[q].t.ts 2)):=hc 3 (by omega);have d4:wr.cell? ⟨g,q*7+4,none⟩=some (.string (nth4 O[q].t.ts 3)):=hc 4 (by omega);have d5:wr.cell? ⟨g,q*7+5,none⟩=some (.int .i64 O[q].s):=hc 5 (by omega);have d6:wr.cell? ⟨g,q*7+6,none⟩=some (.int .i64 O[q].h):=hc 6 (by omega);have AE:(q:Int)<O.length:=(by omega);have FX:(0:Int)<=q:=(by omega);obtain⟨fn,tmps,assign,body,hy,hR⟩:=yield_any (m':=1) (ad HY (backs O.length (q+1)) ⟨q,hq⟩ wr (ad HJ) (by rw[backs_len];omega));clear hc aE h2;have vU:(Instr.yield l #[.int .i64 (q:Nat),.agg #[.string O[q].t.p,.string (nth4 O[q].t.ts 0),.string (nth4 O[q].t.ts 1),.string (nth4 O[q].t.ts 2),.string (nth4 O[q].t.ts 3),.int .i64 O[q].s,.int .i64 O[q].h]]).run Tryz.prog wr=.ok (.round l fn tmps assign body) wr:=hy;clear hy
   gi_wp2_with (refine hR.mono ?_;rintro en w5 (⟨rfl,h5,h6⟩ | ⟨rfl,h5⟩) <;> (have H5:=hide h5;clear h5 hR vU))
   ·have H6:=hide h6;clear h6
    gi_roundg q
    case measure=>omega
    case rel=>
     refine⟨q,by omega,rfl,by go_num,?_,(ad HK).trans (ad H6)⟩;rw[backs_step hq];exact ad H5
   ·refine bodyPost_ret (v:=.tuple #[]) (results_none Tryz.results107 _ _ _) rfl ?_;exact⟨⟨_,rfl⟩,.inr ⟨_,trivial,ad H5⟩⟩
end
section
open Go.RowKit
theorem compare0 (TX:B8->B8->B8->B8->B8->B8->Prop)(w:W8)(p0 p1 p2 p3 p4 q0 q1 q2 q3 q4 tp tq:B8)(s1 h1 s2 h2:Nat)(hp:TX p0 p1 p2 p3 p4 tp)(hq:TX q0 q1 q2 q3 q4 tq)
  (HT:∀ (x0 x1 x2 x3 x4 t:B8),TX x0 x1 x2 x3 x4 t->∀ W:W8,Calls Tryz.prog 63 #[.agg #[.string x0,.string x1,.string x2,.string x3,.string x4]] W λ e w'=>e=.returned (.string t)/\Below W.heap.size W w'):
  Calls Tryz.prog 106 #[.agg #[.string p0,.string p1,.string p2,.string p3,.string p4,.int .i64 s1,.int .i64 h1],.agg #[.string q0,.string q1,.string q2,.string q3,.string q4,.int .i64 s2,.int .i64 h2]] w λ e w'=>e=.returned (.int .i64 (orC (cmpN s1 s2) (cmpN h1 h2) (cmpB tp tq)))/\Below w.heap.size w w':=by
 have T1:=hide HT;have C1:=hide compareI_any;have C3:=hide (λ W=>compare_any tp tq W);have O3:=hide (λ (W:W8) (a b c:Int)=>or3_any (W.alloc (.cells #[.int .i64 a,.int .i64 b,.int .i64 c] 3)) W.heap.size a b c (heap_alloc_new W _));clear HT;generalize cmpB tp tq=r3 at *;go_enter Tryz.func106,Tryz.ntmps106;go_upto_region 1 with fail;generalize hw0:World.alloc (World.alloc w _) _=w0;have k0:Below w.heap.size w w0:=by
  rw[<-hw0];exact ((Below.refl w.heap.size w).alloc L9 _).alloc (by simp) _
 have x0:w0.heap[w.heap.size]?=some (.cells #[.string p0,.string p1,.string p2,.string p3,.string p4,.int .i64 s1,.int .i64 h1] 148 (0,0)):=by
  rw[<-hw0,Below.heap_alloc _ _ _ (by simp)];exact heap_alloc_new w _
 have x1:w0.heap[w.heap.size+1]?=some (.cells #[.string q0,.string q1,.string q2,.string q3,.string q4,.int .i64 s2,.int .i64 h2] 148 (0,0)):=by
  rw[<-hw0];have:=heap_alloc_new (w.alloc (.cells #[.string p0,.string p1,.string p2,.string p3,.string p4,.int .i64 s1,.int .i64 h1] 148)) (.cells #[.string q0,.string q1,.string q2,.string q3,.string q4,.int .i64 s2,.int .i64 h2] 148);rw[World.size_alloc] at this;exact this
 clear hw0;have cq:=hide k0
 have HA:=hide (λ (W:W8) (hW:Below w0.heap.size w0 W)=>(show W.cell? ⟨w.heap.size,0,none⟩=some (.string p0)/\W.cell? ⟨w.heap.size,1,none⟩=some (.string p1)/\W.cell? ⟨w.heap.size,2,none⟩=some (.string p2)/\W.cell? ⟨w.heap.size,3,none⟩=some (.string p3)/\W.cell? ⟨w.heap.size,4,none⟩=some (.string p4)/\W.cell? ⟨w.heap.size,5,none⟩=some (.int .i64 s1)/\W.cell? ⟨w.heap.size,6,none⟩=some (.int .i64 h1)/\W.cell? ⟨w.heap.size+1,0,none⟩=some (.string q0)/\W.cell? ⟨w.heap.size+1,1,none⟩=some (.string q1)/\W.cell? ⟨w.heap.size+1,2,none⟩=some (.string q2)/\W.cell? ⟨w.heap.size+1,3,none⟩=some (.string q3)/\W.cell? ⟨w.heap.size+1,4,none⟩=some (.string q4)/\W.cell? ⟨w.heap.size+1,5,none⟩=some (.int .i64 s2)/\W.cell? ⟨w.heap.size+1,6,none⟩=some (.int .i64 h2) from by
  have y0:=(hW.block _ (Array.getElem?_eq_some_iff.1 x0).1).trans x0;have y1:=(hW.block _ (Array.getElem?_eq_some_iff.1 x1).1).trans x1
  exact⟨(block_cells y0 0).1,(block_cells y0 1).1,(block_cells y0 2).1,(block_cells y0 3).1,(block_cells y0 4).1,(block_cells y0 5).1,(block_cells y0 6).1,(block_cells y1 0).1,(block_cells y1 1).1,(block_cells y1 2).1,(block_cells y1 3).1,(block_cells y1 4).1,(block_cells y1 5).1,(block_cells y1 6).1⟩))
 clear x0 x1 k0;have xJ:Below w0.heap.size w0 w0.drew:=B9.drew
 go_region_held3 (λ W=>W.cell? ⟨w.heap.size,0,none⟩=some (.string p0)/\W.cell? ⟨w.heap.size,1,none⟩=some (.string p1)/\W.cell? ⟨w.heap.size,2,none⟩=some (.string p2)/\W.cell? ⟨w.heap.size,3,none⟩=some (.string p3)/\W.cell? ⟨w.heap.size,4,none⟩=some (.string p4)/\W.cell? ⟨w.heap.size,5,none⟩=some (.int .i64 s1)/\W.cell? ⟨w.heap.size,6,none⟩=some (.int .i64 h1)/\W.cell? ⟨w.heap.size+1,0,none⟩=some (.string q0)/\W.cell? ⟨w.heap.size+1,1,none⟩=some (.string q1)/\W.cell? ⟨w.heap.size+1,2,none⟩=some (.string q2)/\W.cell? ⟨w.heap.size+1,3,none⟩=some (.string q3)/\W.cell? ⟨w.heap.size+1,4,none⟩=some (.string q4)/\W.cell? ⟨w.heap.size+1,5,none⟩=some (.int .i64 s2)/\W.cell? ⟨w.heap.size+1,6,none⟩=some (.int .i64 h2)) ((refine ad HA _ ?_;first | exact xJ | exact bY | exact gi | exact gi.alloc gi.size _)) ((first
  | (go_at_call 161;refine (ad C1 _ _ _).mono ?_;rintro en wx ⟨rfl,nN⟩;subst nN)
  | (go_at_call 63;refine (ad T1 _ _ _ _ _ _ (by assumption) _).mono ?_;rintro en wT ⟨rfl,Cq⟩;first | (have gi:Below w0.heap.size w0 wT:=bY.trans (Cq.mono bY.size)) | (have bY:Below w0.heap.size w0 wT:=below_of_drew Cq);clear Cq)
  | (go_at_call 162;refine (ad C3 _).mono ?_;rintro en wx ⟨rfl,nN⟩;subst nN)
  | (go_at_call 160;refine (ad O3 _ _ _ _).mono ?_;rintro en wx ⟨rfl,nN⟩;subst nN)))
 all_goals
  go_wp2_with fail;go_ret;exact⟨rfl,(ad cq).trans ((gi.alloc gi.size _).mono (ad cq).size)⟩
def mu (p q:Pl):Int:=orC (cmpN p.s q.s) (cmpN p.h q.h) (cmpB (thText p.t) (thText q.t))
theorem compare_pl (w:W8)(p q:Pl)(hp:ThOk p.t)(hq:ThOk q.t)(lp:(atomT p.t.1 (thTerms p.t)).length<=1000000000)(lq:(atomT q.t.1 (thTerms q.t)).length<=1000000000):
  Calls Tryz.prog 106 #[plV p,plV q] w λ e w'=>e=.returned (.int .i64 (mu p q))/\Below w.heap.size w w':=
 compare0 (λ x0 x1 x2 x3 x4 t=>∃ y:Th,ThOk y/\(atomT y.1 (thTerms y)).length<=1000000000/\y.p=x0/\nth4 y.ts 0=x1/\nth4 y.ts 1=x2/\nth4 y.ts 2=x3/\nth4 y.ts 3=x4/\thText y=t) w _ _ _ _ _ _ _ _ _ _ _ _ p.s p.h q.s q.h ⟨p.t,hp,lp,rfl,rfl,rfl,rfl,rfl,rfl⟩ ⟨q.t,hq,lq,rfl,rfl,rfl,rfl,rfl,rfl⟩ (λ x0 x1 x2 x3 x4 t ⟨y,h1,h2,e0,e1,e2,e3,e4,e5⟩ W=>by subst e0 e1 e2 e3 e4 e5;exact thtext_any W y h1 h2)
theorem grown_of_below {w w':W8}(h:Below w.heap.size w w')(hd:w.drawn<=w'.drawn):∃ q os,w'=Sort.grow (w.drewN q) os:=by
 refine⟨w'.drawn-w.drawn,w'.heap.extract w.heap.size w'.heap.size,?_⟩;obtain⟨h1,h2,h3,h4,h5⟩:=h
 cases w' with
 | mk heap tape drawn os output=>
  simp only at h1 h2 h3 h4 h5 hd;subst h1 h2 h3;unfold Sort.grow World.drewN;simp only
  congr 1
  ·apply Array.ext_getElem?;intro i;rw[Array.getElem?_append]
   split
   ·rename_i hi;exact h5 i hi
   ·rename_i hi;rw[Array.getElem?_extract]
    split
    ·congr 1;omega
    ·rw[Array.getElem?_eq_none (by omega)]
  ·omega
end
end Go.Proofs.YtldkpahaocjdpaaGreat
