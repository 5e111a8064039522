/-
  The program's arity, over all that is mentioned.
-/
import Derived.Test.YtldkpahaocjdpaaGreatD11
import Derived.Test.YtldkpahaocjdpaaGreatD12
import Derived.Deep.RegionHeld3
import Derived.RangeFuncBound
import Derived.RangeFuncCalls
import Derived.RangeFuncLeaves
import Derived.Shelf.Abstract
import Derived.Shelf.RegionOpen
import Derived.OwnWalkIn
import Derived.TacticsInMore
import Derived.LoopNIn
import Derived.LoopIn
import Derived.Stop.RegionWithIn
set_option maxHeartbeats 16000000
set_option maxRecDepth 1000000
namespace Go.Proofs.YtldkpahaocjdpaaGreat
section
open Go.RowKit Go.Maps
theorem yah {α:Type}(f:α->V8)(n:Nat)(hn:∀ x,(f x).length=n):∀ (l:List α) (k j:Nat) (hk:k<l.length),j<n->(l.flatMap f)[k*n+j]?=(f l[k])[j]?:=by
 intro l
 induction l with
 | nil=>intro k j hk;simp at hk
 | cons x r ih=>
  intro k j hk hj;have hl:=hn x;rw[List.flatMap_cons]
  cases k with
  | zero=>rw[List.getElem?_append_left (by omega)];simp
  | succ k=>
   rw[List.getElem?_append_right (by rw[hl,Nat.succ_mul];omega)];have e2:(k+1)*n+j-(f x).length=k*n+j:=(by rw[hl,Nat.succ_mul];omega);rw[e2,ih k j (by simpa using hk) hj];simp
variable {v:Value} {e:TypeId} {base n:Nat} {w:W8}
theorem vL {α:Type}{f:α->V8}(hn:∀ x,(f x).length=n){l:List α}(h:w.ownsRow base e n v l.length (l.flatMap f))(k:Nat)(hk:k<l.length):∃ g cap,v=.slice (some ⟨g,0,none⟩) l.length cap/\base<=g/\g<w.heap.size/\l.length<=cap/\cap<=maxLen/\∀ j,j<n->w.cell? ⟨g,k*n+j,none⟩=(f l[k])[j]?:=by
 rcases h.2 with⟨_,h0⟩ | ⟨g,cap,cur,rfl,hb,hg,dG,dx,eZ,ht⟩
 ·omega
 ·have hl:=(Array.getElem?_eq_some_iff.1 hg).1;refine⟨g,cap,rfl,hb,hl,dG,dx,λ j hj=>?_⟩;have:(k+1)*n<=l.length*n:=Nat.mul_le_mul_right n hk;rw[h.cellAt (k*n+j) (by rw[Nat.succ_mul] at this;omega),yah f n hn l k j hk hj]
theorem zt5 (x:yU × Value):(x.1.cells x.2).length=10:=rfl
variable {w':W8}
theorem zG {size:Nat}{xs:V8}{m:Nat}(h:w.ownsRow base e size v n xs)(hb:Below m w w')(hm:∀ g,v.ownBlock=some g->g<m):w'.ownsRow base e size v n xs:=zP h (λ g hg=>hb.block g (hm g hg))
variable {ms:List (yU × Value)} {mv:Value}
theorem aC.below (h:aC w base mv ms)(hb:Below w.heap.size w w'):aC w' base mv ms:=
 ⟨zG h.row hb (λ g e=>(h.row.lt g e).2),λ x hx=>zG (h.each x hx) hb (λ g e=>((h.each x hx).lt g e).2)⟩
def zZ:P9->B8->Option Nat
 | [],_=>none
 | x::r,k=>if x.1.toList==k.toList then some x.2 else zZ r k
theorem zry (nm:B8):∀ (l:P9) (k:Nat),(xT nm l k<0↔zZ l nm=none)/\(0<=xT nm l k->zZ l nm=some (l.getD (xT nm l k-k).toNat (nm,0)).2)
 | [],k=>by simp[xT,zZ]
 | x::r,k=>by
  unfold xT zZ
  by_cases h:(x.1.toList==nm.toList)=true
  ·rw[if_pos h,if_pos h];refine⟨by simp,λ _=>?_⟩;simp
  ·rw[if_neg h,if_neg h];obtain⟨h1,h2⟩:=zry nm r (k+1);refine⟨h1,λ h0=>?_⟩;rw[h2 h0];have:=(z6i nm r (k+1) h0).1;have e:(xT nm r (k+1)-(k:Int)).toNat=(xT nm r (k+1)-((k+1:Nat):Int)).toNat+1:=(by omega);rw[e];simp
theorem qM (ps:P9)(nm:B8)(n:Nat):zdu ps nm n=match zZ ps nm with | none=>true | some m=>m==n:=by
 obtain⟨h1,h2⟩:=zry nm ps 0;unfold zdu xK
 by_cases h:xT nm ps 0<0
 ·rw[if_pos h,h1.1 h]
 ·rw[if_neg h,h2 (by omega)];simp only[Int.natCast_zero,Int.sub_zero];rw[Bool.eq_iff_iff];simp;omega
theorem zle (ps:P9)(nm:B8)(n:Nat):zao ps nm n=if (zZ ps nm).isNone then ps++[(nm,n)] else ps:=by
 obtain⟨h1,h2⟩:=zry nm ps 0;unfold zao xK
 by_cases h:xT nm ps 0<0
 ·rw[if_pos h,h1.1 h];rfl
 ·rw[if_neg h,h2 (by omega)];rfl
theorem zfq (ps:P9)(nm:B8)(n:Nat)(k:B8):zZ (ps++[(nm,n)]) k=match zZ ps k with | some m=>some m | none=>if nm.toList==k.toList then some n else none:=by
 induction ps with
 | nil=>rfl
 | cons x r ih=>
  rw[List.cons_append,zZ,zZ]
  split
  ·rfl
  ·exact ih
def arV (ps:P9):B8->Option Value:=λ k=>(zZ ps k).map λ n=>.int .i64 n
theorem z0e (ps:P9)(nm:B8)(n:Nat)(h:zdu ps nm n=true):zzi (arV ps) nm (.int .i64 n)=arV (zao ps nm n):=by
 funext k
 rw[qM] at h;rw[zle]
 by_cases e:k=nm
 ·subst e;rw[zal];unfold arV
  cases hn:zZ ps k with
  | none=>
   rw[if_pos (by rfl),zfq,hn];simp
  | some m=>
   rw[hn] at h;simp at h;rw[if_neg (by simp),hn,h];rfl
 ·rw[jR e];unfold arV
  cases hn:zZ ps nm with
  | none=>
   rw[if_pos (by rfl),zfq];have:¬ (nm.toList==k.toList)=true:=λ h=>e ((zU.1 h).symm)
   cases zZ ps k with
   | none=>simp only[if_neg this]
   | some m=>rfl
  | some m=>rw[if_neg (by simp)]
def zaq:List yU->P9->Int
 | [],_=>-1
 | M::r,ps=>if zdu ps M.pd M.ts.length then zaq r (zao ps M.pd M.ts.length) else M.place
variable {k:Nat}
theorem zub (h:k<ms.length)(ps:P9):zaq ((ms.map (·.1)).drop k) ps=if zdu ps ms[k].1.pd ms[k].1.ts.length then zaq ((ms.map (·.1)).drop (k+1)) (zao ps ms[k].1.pd ms[k].1.ts.length) else ms[k].1.place:=by
 rw[List.drop_eq_getElem_cons (by simpa using h),zaq];simp
def zij (x:Int):Ending:=.returned (.tuple #[.int .i64 (if 0<=x then x else 0),.bool (decide (0<=x))])
structure nj (w:W8)(base:Nat)(mv:Value)(ms:List (yU × Value))(V:B8->Option Value)(k:Nat)(wr:W8):Prop where
 eh:aC wr base mv ms
 map:qS Tryz.prog 9 wr (w.heap.size+1) k V
 below:Below w.heap.size w wr
theorem nj.alloc {w:W8}{base:Nat}{mv:Value}{ms:List (yU × Value)}{V:B8->Option Value}{k:Nat}{wr:W8}(h:nj w base mv ms V k wr)(o:Obj):nj w base mv ms V k (wr.alloc o):=
 ⟨h.eh.below (B9.alloc L9 _),h.map.alloc o,h.below.alloc h.below.size _⟩
theorem nj.put {V V':B8->Option Value}{k':Nat}{wr w1:W8}(h:nj w base mv ms V k wr)(hm:qS Tryz.prog 9 w1 (w.heap.size+1) k' V')(hg:wr.grownBy w1 (some (w.heap.size+1)))(Az:∀ g,mv.ownBlock=some g->g<w.heap.size)(JN:∀ x∈ms,∀ g,x.2.ownBlock=some g->g<w.heap.size):nj w base mv ms V' k' w1:=by
 have hs:=h.below.size;have hb:∀ g,g<w.heap.size->w1.heap[g]?=wr.heap[g]?:=λ g jo=>hg.block g (by omega) (by simp;omega)
 refine⟨⟨zP h.eh.row (λ g e=>hb g (Az g e)),λ x hx=>zP (h.eh.each x hx) (λ g e=>hb g (JN x hx g e))⟩,hm,h.below.trans ⟨hg.os,hg.tape,hg.output,hg.size,hb⟩⟩
theorem zyg (w:W8)(base:Nat)(ar:O8)(nr cr:Nat)(am:O8)(cm:Nat)(ms:List (yU × Value))(h:aC w base (.slice am ms.length cm) ms)(hl:ms.length<=1000)(eN:∀ x∈ms,x.1.pd.size<=800):
  Calls Tryz.prog 75 #[.agg #[.slice ar nr cr,.slice am ms.length cm]] w λ e w'=>e=zij (zaq (ms.map (·.1)) [])/\Below w.heap.size w w':=by
 have bD:=@run_makeMap Tryz.prog;have nV:=zC (λ g (e:(Value.slice am ms.length cm).ownBlock=some g)=>(h.row.lt g e).2);have Eh:=zC (λ x (hx:x∈ms) g (e:x.2.ownBlock=some g)=>((h.each x hx).lt g e).2);have h0:nj w base (.slice am ms.length cm) ms (arV []) 0 ((w.alloc (.cells #[.slice ar nr cr,.slice am ms.length cm] 100)).alloc (.map #[] 0)):=by
  have b1:=((Below.refl w.heap.size w).alloc L9 (.cells #[.slice ar nr cr,.slice am ms.length cm] 100)).alloc (by simp) (.map #[] 0);refine⟨h.below b1,?_,b1⟩;have:=qS.made Tryz.prog 9 (w.alloc (.cells #[.slice ar nr cr,.slice am ms.length cm] 100));rw[World.size_alloc] at this;exact this
 clear h;go_enter Tryz.func75,Tryz.ntmps75;go_wp2_with fail
 go_loopg [13] ms.length (λ gg i wr=>∃ (k:Nat) (ps:P9),k<=ms.length/\gg=ms.length-k/\i=.int .i64 k/\nj w base (.slice am ms.length cm) ms (arV ps) k wr/\zaq (ms.map (·.1)) []=zaq ((ms.map (·.1)).drop k) ps)
 exact⟨0,[],Nat.zero_le _,rfl,rfl,h0,rfl⟩
 case round=>
  clear h0;obtain⟨k,ps,hk,fM,rfl,hinv,bj⟩:=hrel;have HF:=zC bj;clear bj
  by_cases aN:k<ms.length
  ·have bK:=zC ((zA HF).trans (zub aN ps));obtain⟨g,cap,hv,iC,dp,dG,dx,hc⟩:=vL zt5 hinv.eh.row k aN;injection hv with h1 h2 h3
   subst h1 h3;obtain⟨ag,fJ,gU⟩:=zE (hinv.eh.each _ (List.getElem_mem aN));have gl:=vV (hinv.eh.each _ (List.getElem_mem aN));unfold maxLen at gl;have q0:=hc 0 (by omega);have q1:=hc 1 (by omega);have q2:=hc 2 (by omega);have q3:=hc 3 (by omega);have q4:=hc 4 (by omega);have q5:=hc 5 (by omega);have q6:=hc 6 (by omega);have q7:=hc 7 (by omega);have q8:=hc 8 (by omega);have q9:=hc 9 (by omega);simp only[yU.cells,gU,Nat.add_zero,List.getElem?_cons_zero,List.getElem?_cons_succ] at q0 q1 q2 q3 q4 q5 q6 q7 q8 q9;have mJ:=eN _ (List.getElem_mem aN);have du:ms[k].1.pd.size<=maxLen:=(by unfold maxLen;omega);have hI:=hinv.alloc (.cells #[.int .i64 ms[k].1.num,.bool ms[k].1.neg,.string ms[k].1.pd,.slice ag ms[k].1.ts.length fJ,.int .i64 ms[k].1.start,.int .i64 ms[k].1.place,.int .i64 (ms[k].1.pl 0),.int .i64 (ms[k].1.pl 1),.int .i64 (ms[k].1.pl 2),.int .i64 (ms[k].1.pl 3)] 221);have cA:=hI.map;have HI:=zC hI;clear hc HF hinv hI gU
   cases hn:zZ ps ms[k].1.pd with
   | none=>
    have hb:zdu ps ms[k].1.pd ms[k].1.ts.length=true:=(by rw[qM,hn]);have dE:=zC ((zA bK).trans (if_pos hb));have HP:=zC (z0e ps _ _ hb);have hu:(arV ps ms[k].1.pd).getD (.int .i64 0)=.int .i64 0:=(by simp[arV,hn]);have hc:(arV ps ms[k].1.pd).isSome=false:=(by simp[arV,hn]);clear bK hb hn;go_wp2_with (first | (at_lookup;refine vE _ rfl _ _ 218 rfl 9 3 Tryz.underlying9 Tryz.underlying218 (Tryz.zeroValue3 _) (w.heap.size+1) k (arV ps) rfl cA ms[k].1.pd rfl du _ hu _ hc ?_) | (at_mapUpdate;refine zn7 _ rfl _ _ _ 218 rfl 9 3 Tryz.underlying9 Tryz.underlying218 (w.heap.size+1) k (arV ps) rfl cA (by unfold maxLen;omega) ms[k].1.pd (.int .i64 ms[k].1.ts.length) (by rfl) (by rfl) du ?_));intro w2 eG dd;have dw:=(zA HI).put eG dd (zA nV) (zA Eh);rw[zA HP] at dw;have fG:=zC dw;clear HI eG dd dw cA;go_wp2_with fail;go_roundg (ms.length-(k+1));exact⟨k+1,_,by omega,rfl,by go_num,zA fG,zA dE⟩;omega
   | some m=>
    have hu:(arV ps ms[k].1.pd).getD (.int .i64 0)=.int .i64 m:=(by simp[arV,hn]);have hc:(arV ps ms[k].1.pd).isSome=true:=by simp[arV,hn]
    by_cases bE:m=ms[k].1.ts.length
    ·have hb:zdu ps ms[k].1.pd ms[k].1.ts.length=true:=(by rw[qM,hn];simp[bE]);have dE:=zC ((zA bK).trans (if_pos hb));have HP:=zC (z0e ps _ _ hb);have bG:((m:Int) != (ms[k].1.ts.length:Int))=false:=(by simp[bE]);clear bK hb hn bE;go_wp2_with (first | (at_lookup;refine vE _ rfl _ _ 218 rfl 9 3 Tryz.underlying9 Tryz.underlying218 (Tryz.zeroValue3 _) (w.heap.size+1) k (arV ps) rfl cA ms[k].1.pd rfl du _ hu _ hc ?_) | (at_mapUpdate;refine zn7 _ rfl _ _ _ 218 rfl 9 3 Tryz.underlying9 Tryz.underlying218 (w.heap.size+1) k (arV ps) rfl cA (by unfold maxLen;omega) ms[k].1.pd (.int .i64 ms[k].1.ts.length) (by rfl) (by rfl) du ?_));intro w2 eG dd;have dw:=(zA HI).put eG dd (zA nV) (zA Eh);rw[zA HP] at dw;have fG:=zC dw;clear HI eG dd dw cA;go_wp2_with fail;go_roundg (ms.length-(k+1));exact⟨k+1,_,by omega,rfl,by go_num,zA fG,zA dE⟩;omega
    ·have hb:zdu ps ms[k].1.pd ms[k].1.ts.length=false:=(by rw[qM,hn];simp[bE]);have dE:=zC ((zA bK).trans (if_neg (by rw[hb];decide)));have bG:((m:Int) != (ms[k].1.ts.length:Int))=true:=(by simp;omega);clear bK hb hn bE;go_wp2_with (at_lookup;refine vE _ rfl _ _ 218 rfl 9 3 Tryz.underlying9 Tryz.underlying218 (Tryz.zeroValue3 _) (w.heap.size+1) k (arV ps) rfl cA ms[k].1.pd rfl du _ hu _ hc ?_);go_wp2_with fail
     go_ret2
     refine⟨?_,(zA HI).below⟩;rw[zA dE];unfold zij;rw[if_pos (by omega)];have:decide (0<=(ms[k].1.place:Int))=true:=by simp
     rw[this];rfl
  ·have bK:=zC (show zaq (ms.map (·.1)) []=-1 by rw[zA HF,List.drop_of_length_le (by simp;omega)];rfl);have HI:=zC hinv;clear HF hinv;go_wp2_with fail
   go_ret2
   exact⟨by rw[zA bK];rfl,(zA HI).below⟩
end
section
open Go.RowKit
theorem zdm (W:W8)(v:Value):(Instr.typeAssert (.iface 130 v) 191 130 true).run Tryz.prog W=.ok (.tuple #[v,.bool true]) W:=by kernel_rfl
theorem zje (W:W8)(v:Value):(Instr.typeAssert (.iface 193 v) 191 130 true).run Tryz.prog W=.ok (.tuple #[.string { data:=#[] },.bool false]) W:=by kernel_rfl
theorem zck (W:W8)(v:Value):(Instr.typeAssert (.iface 193 v) 191 193 true).run Tryz.prog W=.ok (.tuple #[v,.bool true]) W:=by kernel_rfl
def zk7 (v:B8)(ts:List (Bool × B8)):Bool:=ts.any λ t=>t.1&&t.2.toList==v.toList
theorem zlo {w:W8}{base:Nat}{tv:Value}{ts:List (Bool × B8)}(h:w.ownsRow base 191 1 tv ts.length (yP ts))(k:Nat)(hk:k<ts.length):∃ g cap,tv=.slice (some ⟨g,0,none⟩) ts.length cap/\base<=g/\g<w.heap.size/\ts.length<=cap/\cap<=maxLen/\w.cell? ⟨g,k,none⟩=some (zdg ts[k].1 ts[k].2):=by
 rcases h.2 with⟨_,h0⟩ | ⟨g,cap,cur,rfl,hb,hg,dG,dx,eZ,ht⟩
 ·omega
 ·refine⟨g,cap,rfl,hb,(Array.getElem?_eq_some_iff.1 hg).1,dG,dx,?_⟩;rw[h.cellAt k (by omega),yP,List.getElem?_map,List.getElem?_eq_getElem hk];rfl
theorem z1a (w:W8)(base:Nat)(pd v:B8)(a:O8)(c:Nat)(ts:List (Bool × B8))(h:w.ownsRow base 191 1 (.slice a ts.length c) ts.length (yP ts)):
  Calls Tryz.prog 221 #[.agg #[.string pd,.slice a ts.length c],.string v] w λ e w'=>e=.returned (.bool (zk7 v ts))/\Below w.heap.size w w':=by
 have gl:=vV h;unfold maxLen at gl;have mA:Below w.heap.size w (w.alloc (.cells #[.string pd,.slice a ts.length c] 79)):=B9.alloc L9 _;have h0:=zG h mA (λ g e=>(h.lt g e).2);clear h;have Fi:=zdm;have ya:=zje;have LU:=zck;go_enter Tryz.func221,Tryz.ntmps221;go_wp2_with fail
 go_loop [12] (λ i=>∃ k:Nat,k<=ts.length/\i=.int .i64 k/\zk7 v ts=zk7 v (ts.drop k)) (λ i=>ts.length-(intOf i).toNat)
 exact⟨0,Nat.zero_le _,rfl,rfl⟩
 case round=>
  obtain⟨k,hk,rfl,bj⟩:=hrel;have HF:=zC bj;clear bj
  by_cases aN:k<ts.length
  ·obtain⟨g,cap,hv,iC,dp,dG,dx,hc⟩:=zlo h0 k aN;injection hv with h1 h2 h3
   subst h1 h3;have dj:zk7 v (ts.drop k)=((ts[k].1&&ts[k].2.toList==v.toList)||zk7 v (ts.drop (k+1))):=zvd aN;have bK:=zC ((zA HF).trans dj);clear HF dj
   cases hb:ts[k].1 with
   | true=>
    rw[hb] at hc;unfold zdg at hc;rw[if_pos rfl] at hc
    cases hq:ts[k].2.toList==v.toList with
    | true=>
     have dE:=zC (show zk7 v ts=true by rw[zA bK,hb,hq];rfl);clear bK hb;go_wp2_with fail;go_ret;exact⟨by rw[zA dE];rfl,mA⟩
    | false=>
     have dE:=zC (show zk7 v ts=zk7 v (ts.drop (k+1)) by rw[zA bK,hb,hq];rfl);clear bK hb;go_wp2_with fail
     go_round
     case rel=>exact⟨k+1,by omega,by go_num,zA dE⟩
     case measure=>simp[intOf];omega
   | false=>
    rw[hb] at hc;unfold zdg at hc;rw[if_neg (by decide)] at hc;have dE:=zC (show zk7 v ts=zk7 v (ts.drop (k+1)) by rw[zA bK,hb];rfl);clear bK hb;go_wp2_with fail
    go_round
    case rel=>exact⟨k+1,by omega,by go_num,zA dE⟩
    case measure=>simp[intOf];omega
  ·have bK:=zC (show zk7 v ts=false by rw[zA HF,List.drop_of_length_le (by omega)];rfl);clear HF;go_wp2_with fail;go_ret;exact⟨by rw[zA bK];rfl,mA⟩
end
section
open Go.RowKit
def xZ (x:yX × Value):V8:=[.string x.1.pd,x.2]
theorem yco (x:yX × Value):(xZ x).length=2:=rfl
theorem zwj (x:yX × Value):(x.1.cells x.2).length=3:=rfl
def yW (b:Bool)(x:yX × Value):Bool:=x.1.neg==b
variable {ls:List (yX × Value)} {bv:Value} {base:Nat} {w:W8}
theorem aK.below {w':W8}(h:aK w base bv ls)(hb:Below w.heap.size w w'):aK w' base bv ls:=
 ⟨zG h.row hb (λ g e=>(h.row.lt g e).2),λ x hx=>zG (h.each x hx) hb (λ g e=>((h.each x hx).lt g e).2)⟩
theorem z1f:(Tryz.prog.info? 79).map (λ i=>(i.zero,i.size,i.bytes))=some (some (.agg #[.string { data:=#[] },.slice none 0 0]),2,40):=by kernel_rfl
theorem z64 (w1:W8)(o:Obj)(x:yX × Value)(j:Nat)(u:Value)(h:(xZ x)[j]?=some u):((w1.alloc o).alloc (Obj.cells #[.string x.1.pd,x.2] 79)).cell? ((⟨w1.heap.size+1,0,none⟩:Addr).add j)=some u:=by
 have e:(⟨w1.heap.size+1,0,none⟩:Addr).add j=⟨w1.heap.size+1,j,none⟩:=by unfold Addr.add;split <;> simp_all
 rw[e,World.cell?_alloc_at _ _ _ _ (by simp)];simpa[xZ] using h
theorem ya5 (L:yX)(a:O8)(n c:Nat):∀ u∈xZ (L,.slice a n c),u.oneCell'=true:=by
 intro u hu;simp[xZ] at hu;rcases hu with rfl | rfl <;> rfl
structure mT (w:W8)(base:Nat)(bv:Value)(ls l:List (yX × Value))(v:Value)(wr:W8):Prop where
 lits:aK wr base bv ls
 row:wr.ownsRow (w.heap.size+1) 79 2 v l.length (l.flatMap xZ)
 below:Below w.heap.size w wr
 sz:w.heap.size<wr.heap.size
theorem mT.alloc {w:W8}{base:Nat}{bv:Value}{ls l:List (yX × Value)}{v:Value}{wr:W8}(h:mT w base bv ls l v wr)(o:Obj):mT w base bv ls l v (wr.alloc o):=
 have hs:=h.sz
 ⟨h.lits.below (B9.alloc L9 _),h.row.alloc o,h.below.alloc (by omega) _,by simp;omega⟩
theorem mT.append {l:List (yX × Value)}{v v':Value}{wr w5:W8}(h:mT w base bv ls l v wr)(Fh:∀ x∈ls,∀ g,x.2.ownBlock=some g->g<w.heap.size)(ei:∀ g,bv.ownBlock=some g->g<w.heap.size){x:yX × Value}(aI:w5.ownsRow (w.heap.size+1) 79 2 v' (l.length+1) (l.flatMap xZ++xZ x))(hg:wr.grownBy w5 v.ownBlock):mT w base bv ls (l++[x]) v' w5:=by
 have hs:=h.sz;have hb:∀ g,g<w.heap.size->w5.heap[g]?=wr.heap[g]?:=λ g jo=>hg.block g (by omega) (λ e=>by have:=(h.row.lt g e.symm).1;omega)
 refine⟨⟨zP h.lits.row (λ g e=>hb g (ei g e)),λ y hy=>zP (h.lits.each y hy) (λ g e=>hb g (Fh y hy g e))⟩,?_,h.below.trans ⟨hg.os,hg.tape,hg.output,hg.size,hb⟩,by have:=hg.size;omega⟩;simpa using aI
theorem zg5 {α:Type}{f:α->Bool}{l:List α}{k:Nat}(h:k<l.length):(l.take (k+1)).filter f=(l.take k).filter f++(if f l[k] then [l[k]] else []):=by
 rw[List.take_succ_eq_append_getElem h,List.filter_append]
 congr 1
 cases hf:f l[k] <;> simp[hf]
theorem zqp (w:W8)(base:Nat)(pd:B8)(ah:O8)(nh ch:Nat)(ab:O8)(cb:Nat)(ls:List (yX × Value))(neg:Bool)(h:aK w base (.slice ab ls.length cb) ls)(hl:ls.length<=1000):
  Calls Tryz.prog 217 #[.agg #[.string pd,.slice ah nh ch,.slice ab ls.length cb],.bool neg] w λ e w'=>∃ (a:O8) (c:Nat),e=.returned (.slice a (ls.filter (yW neg)).length c)/\w'.ownsRow (w.heap.size+1) 79 2 (.slice a (ls.filter (yW neg)).length c) (ls.filter (yW neg)).length ((ls.filter (yW neg)).flatMap xZ)/\Below w.heap.size w w'/\w.heap.size<w'.heap.size:=by
 obtain⟨i0,hi,dK,cB,bZ⟩:=info_parts z1f;have vk:=zC (λ g (e:(Value.slice ab ls.length cb).ownBlock=some g)=>(h.row.lt g e).2);have wV:=zC (λ x (hx:x∈ls) g (e:x.2.ownBlock=some g)=>((h.each x hx).lt g e).2);have b1:=(Below.refl w.heap.size w).alloc L9 (.cells #[.string pd,.slice ah nh ch,.slice ab ls.length cb] 123);have h0:mT w base (.slice ab ls.length cb) ls [] (.slice none 0 0) (w.alloc (.cells #[.string pd,.slice ah nh ch,.slice ab ls.length cb] 123)):=⟨h.below b1,World.ownsRow_nil _ _ _ _,b1,by simp⟩;clear h b1;go_enter Tryz.func217,Tryz.ntmps217;go_wp2_with fail
 go_loopg [5,11] ls.length (λ gg v i wr=>∃ k:Nat,k<=ls.length/\gg=ls.length-k/\i=.int .i64 k/\mT w base (.slice ab ls.length cb) ls ((ls.take k).filter (yW neg)) v wr)
 exact⟨0,Nat.zero_le _,rfl,rfl,h0⟩
 case round=>
  clear h0;obtain⟨k,hk,fM,rfl,hinv⟩:=hrel;obtain⟨a1,kN,rfl⟩:=zE hinv.row
  by_cases aN:k<ls.length
  ·obtain⟨g,cap,hv,iC,dp,dG,dx,hc⟩:=vL zwj hinv.lits.row k aN;injection hv with h1 h2 h3
   subst h1 h3;obtain⟨ag,fJ,gU⟩:=zE (hinv.lits.each _ (List.getElem_mem aN));have q0:=hc 0 (by omega);have q1:=hc 1 (by omega);have q2:=hc 2 (by omega);simp only[yX.cells,gU,Nat.add_zero,List.getElem?_cons_zero,List.getElem?_cons_succ] at q0 q1 q2;have hI:=hinv.alloc (.cells #[.bool ls[k].1.neg,.string ls[k].1.pd,.slice ag ls[k].1.ts.length fJ] 183);have lE:((ls.take k).filter (yW neg)).length<=1000:=Nat.le_trans (List.length_filter_le _ _) (by simp;omega);have hsz:=hI.sz;rw[World.size_alloc] at hsz;clear hc
   cases hq:(ls[k].1.neg==neg) with
   | true=>
    have hf:yW neg ls[k]=true:=hq;have HT:=zC (zg5 (f:=yW neg) aN);have hx:ls[k]=(ls[k].1,Value.slice ag ls[k].1.ts.length fJ):=(by rw[<-gU]);have HX:=zC hx;have Ha:=zC hf;have bH:=(hI.alloc (.cells #[.string ls[k].1.pd,.slice ag ls[k].1.ts.length fJ] 79)).row;have HI:=zC (hI.alloc (.cells #[.string ls[k].1.pd,.slice ag ls[k].1.ts.length fJ] 79));clear hinv hI gU hf hx;go_wp2_with (at_builtin;refine wpList_append_own _ rfl _ _ 289 rfl (w.heap.size+1) 79 i0 _ 2 40 Tryz.underlying289 hi dK cB bZ rfl (by decide) _ _ _ rfl bH ⟨wr.heap.size+1,0,none⟩ 1 1 (xZ (ls[k].1,.slice ag ls[k].1.ts.length fJ)) rfl rfl (z64 wr _ (ls[k].1,.slice ag ls[k].1.ts.length fJ)) (ya5 _ _ _ _) (by unfold maxLen;omega) (by omega) (by simp;omega) ?_);intro v5 w5 hown5 dz hne5;clear hne5;obtain⟨a5,gz,rfl⟩:=zE hown5;have r7:=(zA HI).append (zA wV) (zA vk) hown5 dz;have mj:=zC r7;clear hown5 dz bH r7 HI;go_wp2_with fail;go_roundg (ls.length-(k+1))
    case measure=>omega
    case rel=>
     refine⟨k+1,by omega,rfl,by go_num,?_⟩;rw[zA HT,if_pos (zA Ha),zA HX];exact zA mj
   | false=>
    have hf:yW neg ls[k]=false:=hq;have HT:=zC (show (ls.take (k+1)).filter (yW neg)=(ls.take k).filter (yW neg) by rw[zg5 aN,hf];simp);have HI:=zC hI;clear hinv hI hf gU;go_wp2_with fail;go_roundg (ls.length-(k+1));exact⟨k+1,by omega,rfl,by go_num,by rw[zA HT];exact zA HI⟩;omega
  ·have e:(ls.take k).filter (yW neg)=ls.filter (yW neg):=(by rw[List.take_of_length_le (by omega)]);rw[e] at hinv ⊢;have HI:=zC hinv;clear hinv;go_wp2_with fail;go_ret;exact⟨_,_,rfl,(zA HI).row,(zA HI).below,(zA HI).sz⟩
theorem za7 (w:W8)(base:Nat)(pd:B8)(ah:O8)(nh ch:Nat)(ab:O8)(cb:Nat)(ls:List (yX × Value))(h:aK w base (.slice ab ls.length cb) ls)(hl:ls.length<=1000):
  Calls Tryz.prog 164 #[.agg #[.string pd,.slice ah nh ch,.slice ab ls.length cb]] w λ e w'=>∃ (a:O8) (c:Nat),e=.returned (.slice a (ls.filter (yW false)).length c)/\w'.ownsRow (w.heap.size+1) 79 2 (.slice a (ls.filter (yW false)).length c) (ls.filter (yW false)).length ((ls.filter (yW false)).flatMap xZ)/\Below w.heap.size w w'/\w.heap.size<w'.heap.size:=by
 have b1:=(Below.refl w.heap.size w).alloc L9 (.cells #[.string pd,.slice ah nh ch,.slice ab ls.length cb] 123);have h0:=h.below b1;clear h;go_enter Tryz.func164,Tryz.ntmps164;go_wp2_with fail;refine (zqp _ base pd ah nh ch ab cb ls false h0 hl).mono ?_;rintro e w1 ⟨a,c,rfl,hr,hb,hz⟩;go_wp2_with fail;go_ret;refine⟨a,c,rfl,zI hr (by simp),b1.trans (hb.mono (by simp)),by simp at hz;omega⟩
def zeo (v:B8)(ls:List yX):Bool:=(ls.filter λ l=>l.neg==false).any λ l=>zk7 v l.ts
theorem z0k (w:W8)(base:Nat)(pd v:B8)(ah:O8)(nh ch:Nat)(ab:O8)(cb:Nat)(ls:List (yX × Value))(h:aK w base (.slice ab ls.length cb) ls)(hl:ls.length<=1000):
  Calls Tryz.prog 176 #[.agg #[.string pd,.slice ah nh ch,.slice ab ls.length cb],.string v] w λ e w'=>e=.returned (.bool (zeo v (ls.map (·.1))))/\Below w.heap.size w w':=by
 have b1:=(Below.refl w.heap.size w).alloc L9 (.cells #[.string pd,.slice ah nh ch,.slice ab ls.length cb] 123);have h0:=h.below b1;have lE:(ls.filter (yW false)).length<=1000:=Nat.le_trans (List.length_filter_le _ _) hl;have Cb:∀ x∈ls.filter (yW false),w.ownsRow base 191 1 x.2 x.1.ts.length (yP x.1.ts):=λ x hx=>h.each x (List.mem_filter.1 hx).1
 have heq:zeo v (ls.map (·.1))=(ls.filter (yW false)).any λ x=>zk7 v x.1.ts:=by
  unfold zeo;rw[List.filter_map,List.any_map];rfl
 rw[heq];have hP:=za7 _ base pd ah nh ch ab cb ls h0 hl;obtain⟨l,ik⟩:∃ l,ls.filter (yW false)=l:=⟨_,rfl⟩;rw[ik] at lE Cb hP ⊢;have wV:=zC Cb;clear h heq Cb ik;go_enter Tryz.func176,Tryz.ntmps176;go_wp2_with fail;refine hP.mono ?_;rintro e w1 ⟨a,c,rfl,hr,hb,hz⟩;have aT:Below w.heap.size w w1:=b1.trans (hb.mono (by simp));rw[World.size_alloc] at hr hz;clear h0 hb b1 hP;go_wp2_with fail
 go_loopg [10] l.length (λ gg i wr=>∃ k:Nat,k<=l.length/\gg=l.length-k/\i=.int .i64 k/\wr.ownsRow (w.heap.size+1+1) 79 2 (.slice a l.length c) l.length (l.flatMap xZ)/\Below w.heap.size w wr/\w.heap.size<wr.heap.size/\(l.any λ x=>zk7 v x.1.ts)=(l.drop k).any λ x=>zk7 v x.1.ts)
 exact⟨0,Nat.zero_le _,rfl,rfl,hr,aT,by omega,rfl⟩
 case round=>
  clear hr aT hz;obtain⟨k,hk,fM,rfl,hr,hb,hsz,bj⟩:=hrel;have HF:=zC bj;clear bj
  by_cases aN:k<l.length
  ·obtain⟨g,cap,hv,iC,dp,dG,dx,hc⟩:=vL yco hr k aN;injection hv with h1 h2 h3
   subst h1 h3;have aI:=zA wV _ (List.getElem_mem aN);obtain⟨ag,fJ,gU⟩:=zE aI;have q0:=hc 0 (by omega);have q1:=hc 1 (by omega);simp only[xZ,gU,Nat.add_zero,List.getElem?_cons_zero,List.getElem?_cons_succ] at q0 q1;rw[gU] at aI;have bA:=(Below.refl wr.heap.size wr).alloc L9 (.cells #[.string l[k].1.pd,.slice ag l[k].1.ts.length fJ] 79);have bH:=zG aI (hb.trans (bA.mono (by omega))) (λ x e=>(aI.lt x e).2);have bK:=zC ((zA HF).trans (zvd aN));have HR:=zC hr;clear hc HF aI gU hr;go_wp2_with fail;refine (z1a _ base l[k].1.pd v ag fJ l[k].1.ts bH).mono ?_;rintro e w2 ⟨rfl,aU⟩;have Aq:Below wr.heap.size wr w2:=bA.trans (aU.mono (by simp));have bZ:=Aq.size
   cases hq:zk7 v l[k].1.ts with
   | true=>
    have dE:=zC (show (l.any λ x=>zk7 v x.1.ts)=true by rw[zA bK,hq];rfl);clear bK hq q0 q1 bH aU bA;go_wp2_with fail;go_ret;exact⟨by rw[zA dE];rfl,hb.trans (Aq.mono (by omega))⟩
   | false=>
    have dE:=zC (show (l.any λ x=>zk7 v x.1.ts)=(l.drop (k+1)).any λ x=>zk7 v x.1.ts by rw[zA bK,hq];rfl);have rO:=zC (zG (zA HR) Aq (λ x e=>((zA HR).lt x e).2));clear bK hq q0 q1 bH aU bA HR;go_wp2_with fail;go_roundg (l.length-(k+1));exact⟨k+1,by omega,rfl,by go_num,zA rO,hb.trans (Aq.mono (by omega)),by omega,zA dE⟩;omega
  ·have bK:=zC (show (l.any λ x=>zk7 v x.1.ts)=false by rw[zA HF,List.drop_of_length_le (by omega)];rfl);clear HF;go_wp2_with fail;go_ret;exact⟨by rw[zA bK];rfl,hb⟩
end
section
open Go.RowKit
attribute [local go_sem ↓] qR jO zwz
attribute [local go_sem] xQ jC zsm
theorem zhf (x:yY × Value):(zen x).length=2:=rfl
theorem zxk (No:Nat->Prop)(w:W8)(sb mb l:Nat)(pos neg:List (yY × Value))(pv nv:Value)(K:List (Th × Nat))(h:ud No w sb mb l pos neg pv nv K)(e:zX)(hl:e.length<=12)(bX:∀ x∈neg,zbj (zT e x.1)):
  Calls Tryz.prog 248 #[.pointer (some ⟨sb,0,none⟩),jD e] w λ en w'=>en=.returned (.bool (jV K (neg.map (·.1)) e))/\Below w.heap.size w w':=by
 obtain⟨cs,eZ⟩:∃ cs,cs=(zW e).toArray:=⟨_,rfl⟩;have rI:=zC eZ;unfold jD;rw[<-eZ];clear eZ;obtain⟨base,aE⟩:=h.n.row;obtain⟨an,cn,rfl⟩:=zE aE;have mG:=vV aE;unfold maxLen at mG;have iV:=zC aE;have lJ:=(Array.getElem?_eq_some_iff.1 h.s).1;have rR:=zC lJ;have H:=zC h;have iS:=zC bX;have q0:cs.size=25:=by rw[zA rI];rfl
 clear h aE bX lJ;go_enter Tryz.func248,Tryz.ntmps248;go_upto_region 1 with fail;generalize hw0:World.alloc w _=w0;have k0:Below w.heap.size w w0:=by rw[<-hw0];exact (Below.refl w.heap.size w).alloc L9 _
 have x0:w0.heap[w.heap.size]?=some (.cells cs 135 (0,0)):=by rw[<-hw0];exact heap_alloc_new w _
 have s0:w.heap.size+1=w0.heap.size:=by rw[<-hw0];simp
 have nI:w0.heap[sb]?=some (.cells #[pv,.slice an neg.length cn,.map (some mb),.func (.yield l) #[] #[]] 361 (0,0)):=(k0.block sb (zA rR)).trans (zA H).s;have ee:=zP (zA iV) (λ g e=>k0.block g ((zA iV).lt g e).2);clear hw0;obtain⟨c1,-⟩:=zB nI 1;have mo:=zC x0;have HS:=zC nI;have cq:=zC k0;have na:=zC ee;clear x0 nI k0 ee;go_wp2_with fail
 go_loopg [14] neg.length (λ gg i wr=>∃ k:Nat,k<=neg.length/\gg=neg.length-k/\i=.int .i64 k/\jV K ((neg.drop k).map (·.1)) e=jV K (neg.map (·.1)) e/\Below w0.heap.size w0 wr)
 exact⟨0,Nat.zero_le _,rfl,rfl,rfl,Below.refl _ _⟩
 case round=>
  obtain⟨k,hk,fM,rfl,bj,hb⟩:=hrel;have HF:=zC bj;have HB:=zC hb;have sz:=hb.size;have ei:Below w.heap.size w wr:=(zA cq).trans (hb.mono (by omega));have vk:=zC ei;clear bj hb ei
  by_cases aN:k<neg.length
  ·obtain⟨g,cap,hv,iC,dp,dG,dx,hc⟩:=vL zhf (zA na) k aN;injection hv with h1 h2 h3
   subst h1 h3;have d0:=hc 0 (by omega);have d1:=hc 1 (by omega);have hx:neg[k]∈neg:=List.getElem_mem aN;obtain⟨tb,gl⟩:=(zA H).n.aS _ hx;obtain⟨ta,tc,ji⟩:=zE gl;have gE:=(zA H).n.ft _ hx;obtain⟨D,hD⟩:∃ D,D=neg[k].1:=⟨_,rfl⟩;have ia:w.ownsRow tb 191 1 (.slice ta D.ts.length tc) D.ts.length (D.ts.map zaz):=(by rw[hD,<-ji];exact gl);have e0:wr.cell? ⟨g,k*2+0,none⟩=some (.string D.p):=by
    rw[hD];exact ((zA HB).cell (p:=⟨g,k*2+0,none⟩) dp).trans (hc 0 (by omega))
   have e1:wr.cell? ⟨g,k*2+1,none⟩=some (.slice ta D.ts.length tc):=by
    rw[hD,<-ji];exact ((zA HB).cell (p:=⟨g,k*2+1,none⟩) dp).trans (hc 1 (by omega))
   have vy:=zC ia;have rS:=zC (show jV K ((neg.drop k).map (·.1)) e=((z7 K (zT e D)).isSome||jV K ((neg.drop (k+1)).map (·.1)) e) by rw[List.drop_eq_getElem_cons aN,hD];rfl);have xl:=zC (show zbj (zT e D) by rw[hD];exact zA iS _ hx);rw[<-hD] at gE;have gW:(k:Int)<neg.length:=(by omega);rw[Nat.add_zero] at e0;clear hc d0 d1 gl ji ia hx hD;go_upto_region 4 with fail;generalize hw3:World.alloc wr _=w3;have k3:Below wr.heap.size wr w3:=(by rw[<-hw3];exact (Below.refl wr.heap.size wr).alloc L9 _);have s3:wr.heap.size+1=w3.heap.size:=(by rw[<-hw3];simp);have b3:Below w.heap.size w w3:=(zA vk).trans (k3.mono (by omega));have Ai:Below w0.heap.size w0 w3:=(zA HB).trans (k3.mono (by omega));obtain⟨a0,-⟩:=zB (show w3.heap[wr.heap.size]?=some (.cells #[.string D.p,.slice ta D.ts.length tc] 79 (0,0)) by rw[<-hw3];exact heap_alloc_new wr _) 0;obtain⟨a1,-⟩:=zB (show w3.heap[wr.heap.size]?=some (.cells #[.string D.p,.slice ta D.ts.length tc] 79 (0,0)) by rw[<-hw3];exact heap_alloc_new wr _) 1;obtain⟨a2,-⟩:=zB ((Ai.block sb (by have:=zA rR;omega)).trans (zA HS)) 2;have r0:BV w3 w.heap.size e:=(by unfold BV;rw[<-zA rI];exact (Ai.block _ (by omega)).trans (zA mo));have qi:∀ w':W8,BV w' w.heap.size e->(zgp (.pointer (some ⟨w.heap.size,0,none⟩))).run Tryz.prog w'=.ok (jD e) w':=λ _ h=>h.load
   simp only[List.getElem?_toArray,List.getElem?_cons_zero,List.getElem?_cons_succ] at a0 a1 a2;have F7:=zA rR;have kz:=zC (λ (W:W8) (hW:Below w3.heap.size w3 W)=>(zA H).m.block ((hW.block mb (by have:=(zA H).m.lt;omega)).trans (b3.block mb (zA H).m.lt)));have nT:=zC (λ (W:W8) (hW:Below w3.heap.size w3 W)=>(zc8 W tb e D ta tc (zP (zA vy) (λ g e1=>(hW.block g (by have:=((zA vy).lt g e1).2;omega)).trans (b3.block g ((zA vy).lt g e1).2))) gE hl));have HA:=zC (λ (W:W8) (hW:Below w3.heap.size w3 W)=>(show BV W w.heap.size e/\W.cell? ⟨sb,2,none⟩=some (.map (some mb))/\W.cell? ⟨wr.heap.size,0,none⟩=some (.string D.p)/\W.cell? ⟨wr.heap.size,1,none⟩=some (.slice ta D.ts.length tc) from ⟨r0.below hW,(hW.cell (p:=⟨sb,2,none⟩) (by simp only[];omega)).trans a2,(hW.cell (p:=⟨wr.heap.size,0,none⟩) (by simp only[];omega)).trans a0,(hW.cell (p:=⟨wr.heap.size,1,none⟩) (by simp only[];omega)).trans a1⟩));have gh:=zC b3;have wh:=zC Ai;have HS3:=zC s3;clear hw3 k3 s3 b3 Ai e0 e1 c1 q0 s0 sz
   cases hq:(z7 K (zT e D)).isSome with
   | true=>
    have HE:=zC (show jV K (neg.map (·.1)) e=true by rw[<-zA HF,zA rS,hq];rfl);have HQ:=zC hq;have tD:=zC (λ (W:W8) (hW:Below w3.heap.size w3 W)=>(show (Instr.lookup 82 (.map (some mb)) (thV (zT e D)) true).run Tryz.prog W=.ok (.tuple #[.int .i64 (((z7 K (zT e D)).getD 0:Nat):Int),.bool true]) W from by have:=(zA kz W hW).look (t:=zT e D) (zA xl) Tryz.underlying82;rw[hq] at this;exact this));clear hq
    go_region_held3 (λ w'=>BV w' w.heap.size e/\w'.cell? ⟨sb,2,none⟩=some (.map (some mb))/\w'.cell? ⟨wr.heap.size,0,none⟩=some (.string D.p)/\w'.cell? ⟨wr.heap.size,1,none⟩=some (.slice ta D.ts.length tc)) ((simp[*,zzj])) ((first | (go_at_call 146;refine (zA nT _ (by exact B9.drew)).mono ?_;rintro en w4 ⟨bQ,rfl⟩;have iZ:=zA HA w4 (zL bQ);have CS:=zA tD w4 (zL bQ);have eC:=zC (zL bQ);clear bQ)))
    go_wp2_with fail;go_ret;exact⟨by rw[zA HE];rfl,(zA gh).trans ((zA eC).mono (by exact (zA gh).size))⟩
   | false=>
    have HE:=zC (show jV K ((neg.drop (k+1)).map (·.1)) e=jV K (neg.map (·.1)) e by rw[<-zA HF,zA rS,hq];rfl);have HQ:=zC hq;have tD:=zC (λ (W:W8) (hW:Below w3.heap.size w3 W)=>(show (Instr.lookup 82 (.map (some mb)) (thV (zT e D)) true).run Tryz.prog W=.ok (.tuple #[.int .i64 (((z7 K (zT e D)).getD 0:Nat):Int),.bool false]) W from by have:=(zA kz W hW).look (t:=zT e D) (zA xl) Tryz.underlying82;rw[hq] at this;exact this));clear hq
    go_region_held3 (λ w'=>BV w' w.heap.size e/\w'.cell? ⟨sb,2,none⟩=some (.map (some mb))/\w'.cell? ⟨wr.heap.size,0,none⟩=some (.string D.p)/\w'.cell? ⟨wr.heap.size,1,none⟩=some (.slice ta D.ts.length tc)) ((simp[*,zzj])) ((first | (go_at_call 146;refine (zA nT _ (by exact B9.drew)).mono ?_;rintro en w4 ⟨bQ,rfl⟩;have iZ:=zA HA w4 (zL bQ);have CS:=zA tD w4 (zL bQ);have eC:=zC (zL bQ);clear bQ)))
    go_wp2_with fail;go_roundg (neg.length-(k+1));exact⟨k+1,by omega,rfl,by go_num,zA HE,(zA wh).trans ((zA eC).mono (zA wh).size)⟩;omega
  ·have HE:=zC (show jV K (neg.map (·.1)) e=false by rw[<-zA HF,List.drop_of_length_le (by omega)];rfl);go_wp2_with fail;go_ret;exact⟨by rw[zA HE];rfl,zA vk⟩
end
section
open Go.RowKit Go.Shelf
attribute [local go_sem ↓] qR jO zwz
attribute [local go_sem] xQ jC zsm
def zzy (No:Nat->Prop)(l N:Nat)(Qx:zX->Prop)(J Jx:List zX->W8->Prop):Prop:=
 ∀ (m:Nat) (pre:List zX) (x:zX) (W:W8),Qx x->J pre W->pre.length<N->YieldAt Fence.wide m Tryz.prog l #[jD x] W λ en W'=>
  ∃ c:Bool,en=.returned (.bool c)/\(c=true->J (pre++[x]) W'/\jQ No W W')/\(c=false->Jx (pre++[x]) W')
def zu7 (No:Nat->Prop)(J Jx:List zX->W8->Prop)(pre ws:List zX)(M:Nat)(w:W8)(en:Ending)(w':W8):Prop:=
 (en=.returned (.bool true)/\∃ ys,(∀ x,x∈ys↔x∈ws)/\ys.length<=M/\J (pre++ys) w'/\jQ No w w')\/(en=.returned (.bool false)/\∃ ys,(∀ x∈ys,x∈ws)/\Jx (pre++ys) w')
theorem qU {B:Nat}{J:List zX->W8->Prop}(hJ:AbidesFrom B J){s:List zX}{w w':W8}(h:J s w)(k:Below w.heap.size w w'):J s w':=
 hJ s w w' none h ⟨k.os,k.tape,k.output,k.size,λ i hi _=>k.block i hi⟩ (λ _ e=>by cases e)
theorem z06 (No:Nat->Prop)(w:W8)(sb mb l:Nat)(pos neg:List (yY × Value))(pv nv:Value)(K:List (Th × Nat))(h:ud No w sb mb l pos neg pv nv K)(e:zX)(hl:e.length<=12)(bX:∀ x∈neg,zbj (zT e x.1))
  (Qx:zX->Prop) (hq:∀ x∈qO K (neg.map (·.1)) [] e,Qx x) (J Jx:List zX->W8->Prop) (B N:Nat) (hJ:AbidesFrom B J) (hY:zzy No l N Qx J Jx) (pre:List zX) (hp:J pre w) (hN:pre.length<N) (dJ:∀ g,No g->g<w.heap.size):
  Calls Tryz.prog 234 #[.pointer (some ⟨sb,0,none⟩),.int .i64 (pos.length:Nat),jD e] w (zu7 No J Jx pre (qO K (neg.map (·.1)) [] e) 1 w):=by
 obtain⟨base,aE⟩:=h.p.row;obtain⟨an,cn,rfl⟩:=zE aE;have mG:=vV aE;unfold maxLen at mG;have lJ:=(Array.getElem?_eq_some_iff.1 h.s).1;have rR:=zC lJ;have H:=zC h;have HP:=zC hp;have HY:=zC hY;have HJ:=zC hJ;have qz:=zC hN;have iS:=zC bX;have nW:=zC dJ;have HQ:=zC hq;clear hq;clear h aE lJ hp hY hJ hN bX dJ;go_enter Tryz.func234,Tryz.ntmps234;go_upto_region 1 with fail;generalize hw0:World.alloc w _=w0;have k0:Below w.heap.size w w0:=by rw[<-hw0];exact (Below.refl w.heap.size w).alloc L9 _
 have x0:BV w0 w.heap.size e:=by rw[<-hw0];exact BV.new w e
 have s0:w.heap.size+1=w0.heap.size:=by rw[<-hw0];simp
 have oW:=(zA H).gH (jQ.aF k0);clear hw0;obtain⟨c1,-⟩:=zB oW.s 0;have mo:=zC x0;have cq:=zC k0;have rH:=zC oW;have tG:=zC (qU (zA HJ) (zA HP) k0);clear oW x0 k0;go_upto_region 2 with fail;obtain⟨c3,-⟩:=zB (zA rH).s 3;have qi:∀ w':W8,BV w' w.heap.size e->(zgp (.pointer (some ⟨w.heap.size,0,none⟩))).run Tryz.prog w'=.ok (jD e) w':=λ _ h=>h.load
 have jz:=qi w0.drew (zA mo);have HD:=zC (λ (W:W8) (hW:Below w0.heap.size w0 W)=>(zxk No W sb mb l pos neg _ nv K ((zA rH).gH (jQ.aF hW)) e hl (zA iS)));have Ms:=zC (λ (W:W8) (hW:Below w0.heap.size w0 W)=>qi W ((zA mo).below hW));have vm:=zC (λ (W:W8) (hW:Below w0.heap.size w0 W)=>(hW.cell (p:=⟨sb,3,none⟩) (by have:=zA rR;simp only[];omega)).trans c3);have D8:=zC (λ (W:W8) (hW:Below w0.heap.size w0 W)=>qU (zA HJ) (zA tG) hW);clear qi c1 c3
 cases hd:jV K (neg.map (·.1)) e with
 | true=>
  rw[hd] at HD;have HW:=zC (show qO K (neg.map (·.1)) [] e=[] by unfold qO zQ;simp[hd]);clear hd
  first | go_region_with (go_at_call 248;refine (zA HD _ (by exact B9.drew)).mono ?_;rintro en w4 ⟨rfl,bQ⟩;have eC:=zC (zL bQ);clear bQ) | fail
  all_goals
   go_wp2_with fail;go_ret;rw[zA HW];exact .inl ⟨rfl,[],λ _=>Iff.rfl,by simp,by rw[List.append_nil];exact zA D8 _ (zA eC),(jQ.aF (zA cq)).trans (jQ.aF (zA eC))⟩
 | false=>
  rw[hd] at HD;have HW:=zC (show qO K (neg.map (·.1)) [] e=[e] by unfold qO zQ;simp[hd]);have H8:Qx e:=zA HQ e (by rw[zA HW];exact List.mem_singleton.2 rfl);clear hd;refine (wpIn_wide (n:=2)).1 ?_
  first | gi_region_with (first | (refine⟨trivial,?_⟩;gi_at_call 248;refine (callsIn_wide.2 (zA HD _ (by exact B9.drew))).mono ?_;rintro en w4 ⟨rfl,bQ⟩;have eC:=zC (zL bQ);have l4:=zA Ms w4 (zA eC);have y4:=zA vm w4 (zA eC);obtain⟨fn,tmps,assign,body,hy,hR⟩:=zA HY 1 pre e w4 H8 (zA D8 w4 (zA eC)) (zA qz);clear bQ) | (refine hR.mono ?_;rintro en w5 ⟨c,rfl,h5⟩;have H5:=zC h5;clear h5 hR hy)) | fail
  all_goals
   go_wp2_with fail;go_ret;rw[zA HW]
   cases c with
   | true=>exact .inl ⟨rfl,[e],λ _=>Iff.rfl,by simp,((zA H5).1 rfl).1,((jQ.aF (zA cq)).trans (jQ.aF (zA eC))).trans ((zA H5).1 rfl).2⟩
   | false=>exact .inr ⟨rfl,[e],λ _ h=>h,(zA H5).2 rfl⟩
end
end Go.Proofs.YtldkpahaocjdpaaGreat
