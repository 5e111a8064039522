/-
  A map with strings for keys, as a plain function from texts to values: what a look-up finds, what a store leaves.
-/
import Derived.Maps.OwnSet
import Derived.Test.YtldkpahaocjdpaaGreatC16
import Derived.Maps.RangeWalk
import Derived.DeepKeys4
import Derived.WideKeyArr
import Derived.RangeFuncSeq
set_option maxHeartbeats 16000000
set_option maxRecDepth 1000000
namespace Go.Proofs.YtldkpahaocjdpaaGreat
section
open Go.RowKit Go.Maps Go.ChangeMaps Go.WideMaps
def jK (v:Value):Option (DataW Value × List MemPlace):=some (.held v,[])
def zzp (s:B8):Lit:=.string s.data.toList
theorem zrt {a b:B8}(h:a≠b):zzp a≠zzp b:=λ e=>h (by
 have:a.data.toList=b.data.toList:=by simpa[zzp] using e
 exact ByteArray.ext (Array.toList_inj.1 this))
open Classical in
noncomputable def zxk (V:B8->Option Value)(k:B8)(v:Value):B8->Option Value:=λ x=>if x=k then some v else V x
theorem zav (V:B8->Option Value)(k:B8)(v:Value):zxk V k v k=some v:=by simp[zxk]
variable {v:Value} {V:B8->Option Value}
theorem jW {k x:B8}(h:x≠k):zxk V k v x=V x:=by simp[zxk,h]
def fD (P:Program)(K:TypeId)(w:W8)(b n:Nat)(V:B8->Option Value):Prop:=
 ∃ D:DataW Value,w.ownsMap P K jK b n D/\∀ k:B8,Maps.has D (zzp k)=(V k).isSome/\∀ z,D.atKey (zzp k) (.held z)=.held ((V k).getD z)
theorem fD.made (P:Program)(K:TypeId)(w:W8):fD P K (w.alloc (.map #[] 0)) w.heap.size 0 (λ _=>none):=
 ⟨.map [],World.ownsMap_made w P K jK,λ _=>⟨rfl,λ _=>rfl⟩⟩
theorem fD.lt {P:Program}{K:TypeId}{w:W8}{b n:Nat}{V:B8->Option Value}(h:fD P K w b n V):b<w.heap.size:=by
 obtain⟨D,hD,_⟩:=h;exact hD.lt
theorem fD.block {P:Program}{K:TypeId}{w w':W8}{b n:Nat}(h:fD P K w b n V)(hb:w'.heap[b]?=w.heap[b]?):fD P K w' b n V:=by
 obtain⟨D,⟨es,clock,h1,h2⟩,h3⟩:=h;exact⟨D,⟨es,clock,hb.trans h1,h2⟩,h3⟩
theorem fD.alloc {P:Program}{K:TypeId}{w:W8}{b n:Nat}{V:B8->Option Value}(h:fD P K w b n V)(o:Obj):fD P K (w.alloc o) b n V:=by
 obtain⟨D,hD,h3⟩:=h;exact⟨D,hD.alloc o,h3⟩
theorem fD.mono {P:Program}{K:TypeId}{w:W8}{b n m:Nat}{V:B8->Option Value}(h:fD P K w b n V)(hn:n<=m):fD P K w b m V:=by
 obtain⟨D,hD,h3⟩:=h;exact⟨D,hD.mono hn,h3⟩
theorem zev {d:DataW Value}{ps:List MemPlace}(h:jK v=some (d,ps)):d=.held v:=by
 simp only[jK,Option.some.injEq,Prod.mk.injEq] at h;exact h.1.symm
section
variable {P:Program} (w:W8) {ops:Array Oper} {rest:List Oper} {o:Oper} {a:Act} {Q:Exit->Act->W8->Prop}
theorem jX (hg:o.guard=none)(m x:Operand)(t:TypeId)(tO:o.op=Op.lookup t m x true)
  (K e:TypeId) (hK:P.underlying K=some .string) (ht:P.underlying t=some (.map K e)) {z:Value} (hz:(zeroValue e).run P w=.ok z w) (b n:Nat) (V:B8->Option Value)
  (hm:a.eval m=.map (some b)) (aC:fD P K w b n V) (key:B8) (hx:a.eval x=.string key) (eU:key.size<=maxLen) (u:Value) (hu:(V key).getD z=u) (c:Bool) (hc:(V key).isSome=c)
  (hQ:wpList P ops Q rest (a.put o.dst (.tuple #[u,.bool c])) w):
  wpList P ops Q (o::rest) a w:=by
 obtain⟨D,hD,h3⟩:=aC;refine wpList_lookup_own_ok w hg m x t tO K e (string_keyed hK) ht jK hz (.held z) [] rfl b n D hm hD (.string key) (zzp key) hx (keyOf_string_mk hK eU) (λ v ps hv=>?_);have h1:=zev hv;rw[(h3 key).2 z] at h1;have h2:(V key).getD z=v:=by injection h1
 rw[(h3 key).1,hc,<-h2,hu];exact hQ
theorem zgk (hg:o.guard=none)(m x:Operand)(t:TypeId)(tO:o.op=Op.lookup t m x false)
  (K e:TypeId) (hK:P.underlying K=some .string) (ht:P.underlying t=some (.map K e)) {z:Value} (hz:(zeroValue e).run P w=.ok z w) (b n:Nat) (V:B8->Option Value)
  (hm:a.eval m=.map (some b)) (aC:fD P K w b n V) (key:B8) (hx:a.eval x=.string key) (eU:key.size<=maxLen) (u:Value) (hu:(V key).getD z=u)
  (hQ:wpList P ops Q rest (a.put o.dst u) w):
  wpList P ops Q (o::rest) a w:=by
 refine wpList_plain hg λ K' E6=>?_
 obtain⟨D,hD,h3⟩:=aC;obtain⟨v,ps,nE,hv⟩:=hD.lookup (string_keyed hK) ht hz (zd:=.held z) (zp:=[]) rfl (keyOf_string_mk hK eU);have h1:=zev hv;rw[show DataW.atKey D (Lit.string key.data.toList) (DataW.held z)=DataW.held ((V key).getD z) from (h3 key).2 z] at h1;have h2:(V key).getD z=v:=by injection h1
 rw[<-h2,hu] at nE;unfold Oper.wp;simp[execOp,tO,hm,hx,nE,Result.andThen];exact E6 _ _ hQ
theorem zme (hg:o.guard=none)(m x v:Operand)(t:TypeId)(tO:o.op=Op.mapUpdate t m x v)
  (K e:TypeId) (hK:P.underlying K=some .string) (ht:P.underlying t=some (.map K e)) (b n:Nat) (V:B8->Option Value)
  (hm:a.eval m=.map (some b)) (aC:fD P K w b n V) (hn:n<maxLen) (key:B8) (u:Value) (hx:a.eval x=.string key) (hv:a.eval v=u) (eU:key.size<=maxLen)
  (hQ:∀ w',fD P K w' b (n+1) (zxk V key u)->w.grownBy w' (some b)->wpList P ops Q rest (a.put o.dst undef) w'):
  wpList P ops Q (o::rest) a w:=by
 obtain⟨D,hD,h3⟩:=aC;refine wpList_mapUpdate_own w hg m x v t tO K e (string_keyed hK) ht jK b n D hm hD hn (.string key) u (zzp key) hx hv (keyOf_string_mk hK eU) (.held u) [] rfl (λ w' h1 h2=>hQ w' ⟨_,h1,λ k=>?_⟩ h2)
 by_cases e:k=key
 ·subst e;rw[zav];exact⟨Maps.has_put_same hD.isMap (by trivial) _,λ z=>Maps.atKey_put_same hD.isMap (by trivial) _ _⟩
 ·rw[jW e];exact⟨(Maps.has_put_other (zrt e) _).trans (h3 k).1,λ z=>(Maps.atKey_put_other (zrt e) _ _).trans ((h3 k).2 z)⟩
end
end
section
open Go.RowKit Go.Maps
theorem z7d {α:Type}(f:α->V8)(n:Nat)(hn:∀ x,(f x).length=n):∀ (l:List α) (k j:Nat) (hk:k<l.length),j<n->(l.flatMap f)[k*n+j]?=(f l[k])[j]?:=by
 intro l
 induction l with
 | nil=>intro k j hk;simp at hk
 | cons x r ih=>
  intro k j hk hj;have hl:=hn x;rw[List.flatMap_cons]
  cases k with
  | zero=>rw[List.getElem?_append_left (by omega)];simp
  | succ k=>
   rw[List.getElem?_append_right (by rw[hl,Nat.succ_mul];omega)];have e2:(k+1)*n+j-(f x).length=k*n+j:=(by rw[hl,Nat.succ_mul];omega);rw[e2,ih k j (by simpa using hk) hj];simp
variable {v:Value} {e:TypeId} {base n:Nat} {w:W8}
theorem vU {α:Type}{f:α->V8}(hn:∀ x,(f x).length=n){l:List α}(h:w.ownsRow base e n v l.length (l.flatMap f))(k:Nat)(hk:k<l.length):∃ g cap,v=.slice (some ⟨g,0,none⟩) l.length cap/\base<=g/\g<w.heap.size/\l.length<=cap/\cap<=maxLen/\∀ j,j<n->w.cell? ⟨g,k*n+j,none⟩=(f l[k])[j]?:=by
 rcases h.2 with⟨_,h0⟩ | ⟨g,cap,cur,rfl,hb,hg,cZ,da,ll,ht⟩
 ·omega
 ·have hl:=(Array.getElem?_eq_some_iff.1 hg).1;refine⟨g,cap,rfl,hb,hl,cZ,da,λ j hj=>?_⟩;have:(k+1)*n<=l.length*n:=Nat.mul_le_mul_right n hk;rw[h.cellAt (k*n+j) (by rw[Nat.succ_mul] at this;omega),z7d f n hn l k j hk hj]
theorem zr2 (x:xU × Value):(x.1.cells x.2).length=10:=rfl
variable {w':W8}
theorem zH {size:Nat}{xs:V8}{m:Nat}(h:w.ownsRow base e size v n xs)(hb:Below m w w')(hm:∀ g,v.ownBlock=some g->g<m):w'.ownsRow base e size v n xs:=xI h (λ g hg=>hb.block g (hm g hg))
variable {ms:List (xU × Value)} {mv:Value}
theorem iQ.below (h:iQ w base mv ms)(hb:Below w.heap.size w w'):iQ w' base mv ms:=
 ⟨zH h.row hb (λ g e=>(h.row.lt g e).2),λ x hx=>zH (h.each x hx) hb (λ g e=>((h.each x hx).lt g e).2)⟩
def xH:P9->B8->Option Nat
 | [],_=>none
 | x::r,k=>if x.1.toList==k.toList then some x.2 else xH r k
theorem zlt (nm:B8):∀ (l:P9) (k:Nat),(xV nm l k<0↔xH l nm=none)/\(0<=xV nm l k->xH l nm=some (l.getD (xV nm l k-k).toNat (nm,0)).2)
 | [],k=>by simp[xV,xH]
 | x::r,k=>by
  unfold xV xH
  by_cases h:(x.1.toList==nm.toList)=true
  ·rw[if_pos h,if_pos h];refine⟨by simp,λ _=>?_⟩;simp
  ·rw[if_neg h,if_neg h];obtain⟨h1,h2⟩:=zlt nm r (k+1);refine⟨h1,λ h0=>?_⟩;rw[h2 h0];have:=(zzm nm r (k+1) h0).1;have e:(xV nm r (k+1)-(k:Int)).toNat=(xV nm r (k+1)-((k+1:Nat):Int)).toNat+1:=(by omega);rw[e];simp
theorem zao (ps:P9)(nm:B8)(n:Nat):qP ps nm n=match xH ps nm with | none=>true | some m=>m==n:=by
 obtain⟨h1,h2⟩:=zlt nm ps 0;unfold qP zM
 by_cases h:xV nm ps 0<0
 ·rw[if_pos h,h1.1 h]
 ·rw[if_neg h,h2 (by omega)];simp only[Int.natCast_zero,Int.sub_zero];rw[Bool.eq_iff_iff];simp;omega
theorem zpt (ps:P9)(nm:B8)(n:Nat):qG ps nm n=if (xH ps nm).isNone then ps++[(nm,n)] else ps:=by
 obtain⟨h1,h2⟩:=zlt nm ps 0;unfold qG zM
 by_cases h:xV nm ps 0<0
 ·rw[if_pos h,h1.1 h];rfl
 ·rw[if_neg h,h2 (by omega)];rfl
theorem zjc (ps:P9)(nm:B8)(n:Nat)(k:B8):xH (ps++[(nm,n)]) k=match xH ps k with | some m=>some m | none=>if nm.toList==k.toList then some n else none:=by
 induction ps with
 | nil=>rfl
 | cons x r ih=>
  rw[List.cons_append,xH,xH]
  split
  ·rfl
  ·exact ih
def arV (ps:P9):B8->Option Value:=λ k=>(xH ps k).map λ n=>.int .i64 n
theorem zx8 (ps:P9)(nm:B8)(n:Nat)(h:qP ps nm n=true):zxk (arV ps) nm (.int .i64 n)=arV (qG ps nm n):=by
 funext k
 rw[zao] at h;rw[zpt]
 by_cases e:k=nm
 ·subst e;rw[zav];unfold arV
  cases hn:xH ps k with
  | none=>
   rw[if_pos (by rfl),zjc,hn];simp
  | some m=>
   rw[hn] at h;simp at h;rw[if_neg (by simp),hn,h];rfl
 ·rw[jW e];unfold arV
  cases hn:xH ps nm with
  | none=>
   rw[if_pos (by rfl),zjc];have:¬ (nm.toList==k.toList)=true:=λ h=>e ((vO.1 h).symm)
   cases xH ps k with
   | none=>simp only[if_neg this]
   | some m=>rfl
  | some m=>rw[if_neg (by simp)]
def zb7:List xU->P9->Int
 | [],_=>-1
 | M::r,ps=>if qP ps M.pd M.ts.length then zb7 r (qG ps M.pd M.ts.length) else M.place
variable {k:Nat}
theorem zr9 (h:k<ms.length)(ps:P9):zb7 ((ms.map (·.1)).drop k) ps=if qP ps ms[k].1.pd ms[k].1.ts.length then zb7 ((ms.map (·.1)).drop (k+1)) (qG ps ms[k].1.pd ms[k].1.ts.length) else ms[k].1.place:=by
 rw[List.drop_eq_getElem_cons (by simpa using h),zb7];simp
def zhy (x:Int):Ending:=.returned (.tuple #[.int .i64 (if 0<=x then x else 0),.bool (decide (0<=x))])
structure FP (w:W8)(base:Nat)(mv:Value)(ms:List (xU × Value))(V:B8->Option Value)(k:Nat)(wr:W8):Prop where
 iY:iQ wr base mv ms
 map:fD Tryz.prog 9 wr (w.heap.size+1) k V
 below:Below w.heap.size w wr
theorem FP.alloc {w:W8}{base:Nat}{mv:Value}{ms:List (xU × Value)}{V:B8->Option Value}{k:Nat}{wr:W8}(h:FP w base mv ms V k wr)(o:Obj):FP w base mv ms V k (wr.alloc o):=
 ⟨h.iY.below (B9.alloc L9 _),h.map.alloc o,h.below.alloc h.below.size _⟩
theorem FP.put {V V':B8->Option Value}{k':Nat}{wr w1:W8}(h:FP w base mv ms V k wr)(hm:fD Tryz.prog 9 w1 (w.heap.size+1) k' V')(hg:wr.grownBy w1 (some (w.heap.size+1)))(NA:∀ g,mv.ownBlock=some g->g<w.heap.size)(Yd:∀ x∈ms,∀ g,x.2.ownBlock=some g->g<w.heap.size):FP w base mv ms V' k' w1:=by
 have hs:=h.below.size;have hb:∀ g,g<w.heap.size->w1.heap[g]?=wr.heap[g]?:=λ g uz=>hg.block g (by omega) (by simp;omega)
 refine⟨⟨xI h.iY.row (λ g e=>hb g (NA g e)),λ x hx=>xI (h.iY.each x hx) (λ g e=>hb g (Yd x hx g e))⟩,hm,h.below.trans ⟨hg.os,hg.tape,hg.output,hg.size,hb⟩⟩
theorem zv8 (w:W8)(base:Nat)(ar:O8)(nr cr:Nat)(am:O8)(cm:Nat)(ms:List (xU × Value))(h:iQ w base (.slice am ms.length cm) ms)(hl:ms.length<=1000)(nS:∀ x∈ms,x.1.pd.size<=800):
  Calls Tryz.prog 75 #[.agg #[.slice ar nr cr,.slice am ms.length cm]] w λ e w'=>e=zhy (zb7 (ms.map (·.1)) [])/\Below w.heap.size w w':=by
 have uB:=@run_makeMap Tryz.prog;have mV:=zC (λ g (e:(Value.slice am ms.length cm).ownBlock=some g)=>(h.row.lt g e).2);have SF:=zC (λ x (hx:x∈ms) g (e:x.2.ownBlock=some g)=>((h.each x hx).lt g e).2);have h0:FP w base (.slice am ms.length cm) ms (arV []) 0 ((w.alloc (.cells #[.slice ar nr cr,.slice am ms.length cm] 100)).alloc (.map #[] 0)):=by
  have b1:=((Below.refl w.heap.size w).alloc L9 (.cells #[.slice ar nr cr,.slice am ms.length cm] 100)).alloc (by simp) (.map #[] 0);refine⟨h.below b1,?_,b1⟩;have:=fD.made Tryz.prog 9 (w.alloc (.cells #[.slice ar nr cr,.slice am ms.length cm] 100));rw[World.size_alloc] at this;exact this
 clear h;go_enter Tryz.func75,Tryz.ntmps75;go_wp2_with fail
 go_loopg [13] ms.length (λ gg i wr=>∃ (k:Nat) (ps:P9),k<=ms.length/\gg=ms.length-k/\i=.int .i64 k/\FP w base (.slice am ms.length cm) ms (arV ps) k wr/\zb7 (ms.map (·.1)) []=zb7 ((ms.map (·.1)).drop k) ps)
 exact⟨0,[],Nat.zero_le _,rfl,rfl,h0,rfl⟩
 case round=>
  clear h0;obtain⟨k,ps,hk,iZ,rfl,hinv,ax⟩:=hrel;have HF:=zC ax;clear ax
  by_cases aE:k<ms.length
  ·have az:=zC ((zA HF).trans (zr9 aE ps));obtain⟨g,cap,hv,oN,bR,cZ,da,hc⟩:=vU zr2 hinv.iY.row k aE;injection hv with h1 h2 h3
   subst h1 h3;obtain⟨bp,fw,km⟩:=zD (hinv.iY.each _ (List.getElem_mem aE));have mU:=yN (hinv.iY.each _ (List.getElem_mem aE));unfold maxLen at mU;have q0:=hc 0 (by omega);have q1:=hc 1 (by omega);have q2:=hc 2 (by omega);have q3:=hc 3 (by omega);have q4:=hc 4 (by omega);have q5:=hc 5 (by omega);have q6:=hc 6 (by omega);have q7:=hc 7 (by omega);have q8:=hc 8 (by omega);have q9:=hc 9 (by omega);simp only[xU.cells,km,Nat.add_zero,List.getElem?_cons_zero,List.getElem?_cons_succ] at q0 q1 q2 q3 q4 q5 q6 q7 q8 q9;have kx:=nS _ (List.getElem_mem aE);have eU:ms[k].1.pd.size<=maxLen:=(by unfold maxLen;omega);have hI:=hinv.alloc (.cells #[.int .i64 ms[k].1.num,.bool ms[k].1.neg,.string ms[k].1.pd,.slice bp ms[k].1.ts.length fw,.int .i64 ms[k].1.start,.int .i64 ms[k].1.place,.int .i64 (ms[k].1.pl 0),.int .i64 (ms[k].1.pl 1),.int .i64 (ms[k].1.pl 2),.int .i64 (ms[k].1.pl 3)] 221);have eV:=hI.map;have HI:=zC hI;clear hc HF hinv hI km
   cases hn:xH ps ms[k].1.pd with
   | none=>
    have hb:qP ps ms[k].1.pd ms[k].1.ts.length=true:=(by rw[zao,hn]);have aQ:=zC ((zA az).trans (if_pos hb));have HP:=zC (zx8 ps _ _ hb);have hu:(arV ps ms[k].1.pd).getD (.int .i64 0)=.int .i64 0:=(by simp[arV,hn]);have hc:(arV ps ms[k].1.pd).isSome=false:=(by simp[arV,hn]);clear az hb hn;go_wp2_with (first | (at_lookup;refine jX _ rfl _ _ 218 rfl 9 3 Tryz.underlying9 Tryz.underlying218 (Tryz.zeroValue3 _) (w.heap.size+1) k (arV ps) rfl eV ms[k].1.pd rfl eU _ hu _ hc ?_) | (at_mapUpdate;refine zme _ rfl _ _ _ 218 rfl 9 3 Tryz.underlying9 Tryz.underlying218 (w.heap.size+1) k (arV ps) rfl eV (by unfold maxLen;omega) ms[k].1.pd (.int .i64 ms[k].1.ts.length) (by rfl) (by rfl) eU ?_));intro w2 il nA;have dj:=(zA HI).put il nA (zA mV) (zA SF);rw[zA HP] at dj;have iR:=zC dj;clear HI il nA dj eV;go_wp2_with fail;go_roundg (ms.length-(k+1));exact⟨k+1,_,by omega,rfl,by go_num,zA iR,zA aQ⟩;omega
   | some m=>
    have hu:(arV ps ms[k].1.pd).getD (.int .i64 0)=.int .i64 m:=(by simp[arV,hn]);have hc:(arV ps ms[k].1.pd).isSome=true:=by simp[arV,hn]
    by_cases tL:m=ms[k].1.ts.length
    ·have hb:qP ps ms[k].1.pd ms[k].1.ts.length=true:=(by rw[zao,hn];simp[tL]);have aQ:=zC ((zA az).trans (if_pos hb));have HP:=zC (zx8 ps _ _ hb);have eI:((m:Int) != (ms[k].1.ts.length:Int))=false:=(by simp[tL]);clear az hb hn tL;go_wp2_with (first | (at_lookup;refine jX _ rfl _ _ 218 rfl 9 3 Tryz.underlying9 Tryz.underlying218 (Tryz.zeroValue3 _) (w.heap.size+1) k (arV ps) rfl eV ms[k].1.pd rfl eU _ hu _ hc ?_) | (at_mapUpdate;refine zme _ rfl _ _ _ 218 rfl 9 3 Tryz.underlying9 Tryz.underlying218 (w.heap.size+1) k (arV ps) rfl eV (by unfold maxLen;omega) ms[k].1.pd (.int .i64 ms[k].1.ts.length) (by rfl) (by rfl) eU ?_));intro w2 il nA;have dj:=(zA HI).put il nA (zA mV) (zA SF);rw[zA HP] at dj;have iR:=zC dj;clear HI il nA dj eV;go_wp2_with fail;go_roundg (ms.length-(k+1));exact⟨k+1,_,by omega,rfl,by go_num,zA iR,zA aQ⟩;omega
    ·have hb:qP ps ms[k].1.pd ms[k].1.ts.length=false:=(by rw[zao,hn];simp[tL]);have aQ:=zC ((zA az).trans (if_neg (by rw[hb];decide)));have eI:((m:Int) != (ms[k].1.ts.length:Int))=true:=(by simp;omega);clear az hb hn tL;go_wp2_with (at_lookup;refine jX _ rfl _ _ 218 rfl 9 3 Tryz.underlying9 Tryz.underlying218 (Tryz.zeroValue3 _) (w.heap.size+1) k (arV ps) rfl eV ms[k].1.pd rfl eU _ hu _ hc ?_);go_wp2_with fail
     go_ret2
     refine⟨?_,(zA HI).below⟩;rw[zA aQ];unfold zhy;rw[if_pos (by omega)];have:decide (0<=(ms[k].1.place:Int))=true:=by simp
     rw[this];rfl
  ·have az:=zC (show zb7 (ms.map (·.1)) []=-1 by rw[zA HF,List.drop_of_length_le (by simp;omega)];rfl);have HI:=zC hinv;clear HF hinv;go_wp2_with fail
   go_ret2
   exact⟨by rw[zA az];rfl,(zA HI).below⟩
end
section
open Go.RowKit Go.Maps Go.ChangeMaps Go.WideMaps
def Ir (P:Program)(K:TypeId)(w:W8)(b r n:Nat)(V:B8->Option Value)(L:B8->Prop)(kC:Nat):Prop:=
 ∃ (D:DataW Value) (left:Lit->Bool),w.ranges P K jK b r n D left kC/\(∀ k:B8,Maps.has D (zzp k)=(V k).isSome/\∀ z,D.atKey (zzp k) (.held z)=.held ((V k).getD z))/\∀ k,left (zzp k)=true↔L k
theorem Ir.alloc {P:Program}{K:TypeId}{w:W8}{b r n:Nat}{V:B8->Option Value}{L:B8->Prop}{kC:Nat}(h:Ir P K w b r n V L kC)(o:Obj):Ir P K (w.alloc o) b r n V L kC:=by
 obtain⟨D,left,h1,h2⟩:=h;exact⟨D,left,h1.alloc o,h2⟩
variable {kl:Lit} {k:TypeId} {P:Program}
theorem zzo (hk:P.underlying k=some .string){s:B8}(h:keyOf P k (.string s)=some kl):kl=zzp s:=by
 simp[keyOf,hk,mapKey] at h;exact h.2.symm
theorem zni (hk:P.underlying k=some .string){key:Value}(h:keyOf P k key=some kl):∃ s,key=.string s:=by
 cases key <;> simp[keyOf,hk,mapKey] at h
 exact⟨_,rfl⟩
section
variable {P:Program} (w:W8) {ops:Array Oper} {rest:List Oper} {o:Oper} {a:Act} {Q:Exit->Act->W8->Prop}
theorem z5p (hg:o.guard=none)(m:Operand)(t:TypeId)(tO:o.op=Op.range t m)(K e:TypeId)(hK:P.underlying K=some .string)(ht:P.underlying t=some (.map K e))(b n:Nat)(V:B8->Option Value)
  (hm:a.eval m=.map (some b)) (aC:fD P K w b n V)
  (hQ:∀ w' kC,Ir P K w' b w.heap.size n V (λ k=>(V k).isSome=true) kC->kC<=n->w.grownBy w' none->w'.heap.size=w.heap.size+1->wpList P ops Q rest (a.put o.dst (.pointer (some ⟨w.heap.size,0,none⟩))) w'):
  wpList P ops Q (o::rest) a w:=by
 obtain⟨D,hD,h3⟩:=aC;refine wpList_range_own w hg m t tO K e (string_keyed hK) ht jK b n D hm hD λ w' h1 h2 hs=>hQ w' (Maps.size D) ⟨D,_,h1,h3,λ k=>by rw[(h3 k).1]⟩ ?_ h2 hs
 obtain⟨es,clock,_,_,hn,rfl⟩:=hD;rw[Maps.size_eq,(WideShapes.sorted_perm _).length_eq];simpa using hn
theorem z8n (hg:o.guard=none)(it:Operand)(tO:o.op=Op.next it false)(K:TypeId)(hK:P.underlying K=some .string)(b r n:Nat)(V:B8->Option Value)(L:B8->Prop)(kC:Nat)(mk:B8->Value)(pk:∀ k u,V k=some u->u=mk k)
  (Qi:a.eval it=.pointer (some ⟨r,0,none⟩)) (h:Ir P K w b r n V L kC)
  (Bn:(∀ k,¬ L k)->wpList P ops Q rest (a.put o.dst (.tuple #[.bool false])) w)
  (Bo:∀ (k:B8) (w':W8) (rX:Nat),L k->V k=some (mk k)->Ir P K w' b r n V (λ x=>L x/\x≠k) rX->rX<kC->w.grownBy w' (some r)->w'.heap.size=w.heap.size ->
   (Instr.entry (.pointer (some ⟨r,0,none⟩))).run P w'=.ok (.tuple #[.string k,mk k]) w'->wpList P ops Q rest (a.put o.dst (.tuple #[.bool true,.string k,mk k])) w'):
  wpList P ops Q (o::rest) a w:=by
 obtain⟨D,left,h1,h2,h3⟩:=h;refine wpList_next_ranges w hg it tO K (string_keyed hK) jK Value.string (id:Value->Value) (λ key kl hkey=>zni hK hkey) (λ v y _=>⟨v,rfl⟩) b r n D left kC Qi h1 (λ _ hl=>Bn λ k hk=>by rw[<-h3,hl] at hk;cases hk) ?_;intro x c kl y w' rX hkey aE hv eS Cg aG sg aT GF;have eU:=zzo hK hkey;subst eU;have hy:=zev (v:=c) (d:=y.1) (ps:=y.2) hv;have hV:V x=some c:=by
  have e1:=(h2 x).2 undef;have e2:=(h2 x).2 (.bool true);rw[eS,hy] at e1 e2;injection e1 with e1
  injection e2 with e2
  cases hVx:V x with
  | none=>rw[hVx] at e1 e2;rw[e1] at e2;cases e2
  | some u=>rw[hVx] at e1;rw[e1];rfl
 have hc:=pk x c hV;subst hc;refine Bo x w' rX ((h3 x).1 aE) hV ⟨D,_,Cg,h2,λ k=>?_⟩ aG sg aT GF;rw[Bool.and_eq_true,h3,Bool.not_eq_true'];refine and_congr_right λ _=>⟨λ hs e=>?_,λ eI=>Maps.sameKey_ne (zrt eI)⟩
 subst e;rw[WideAt.sameKey_self (by trivial)] at hs
 cases hs
end
end
section
open Go.RowKit Go.Maps Go.ChangeMaps Go.WideMaps
abbrev Th:=B8 × List B8
abbrev Th.p (t:Th):B8:=t.1
abbrev Th.ts (t:Th):List B8:=t.2
def zgm (l:List B8)(i:Nat):B8:=(l[i]?).getD ⟨#[]⟩
def yK (t:Th):V8:=[.string t.p,.string (zgm t.ts 0),.string (zgm t.ts 1),.string (zgm t.ts 2),.string (zgm t.ts 3)]
def thV (t:Th):Value:=.agg (yK t).toArray
structure zhm (t:Th):Prop where
 pd:t.p.size<=1000000000
 gH:t.ts.length<=4
 sz:∀ x∈t.ts,x.size<=1000000000
 ne:∀ x∈t.ts,0<x.size
variable {t:Th}
theorem z7s (h:zhm t)(i:Nat):(zgm t.ts i).size<=1000000000:=by
 unfold zgm;rcases Nat.lt_or_ge i t.ts.length with hi | hi
 ·rw[List.getElem?_eq_getElem hi];exact h.sz _ (List.getElem_mem hi)
 ·rw[List.getElem?_eq_none hi];simp[ByteArray.size]
variable {i:Nat}
theorem zt2 (h:zhm t)(hi:i<t.ts.length):0<(zgm t.ts i).size:=by
 unfold zgm;rw[List.getElem?_eq_getElem hi];exact h.ne _ (List.getElem_mem hi)
theorem zpx {l:List B8}(hi:l.length<=i):(zgm l i).size=0:=by
 unfold zgm;rw[List.getElem?_eq_none hi];rfl
variable {a:Th}
theorem z8j {b:Th}(ha:zhm a)(hb:zhm b)(h:thV a=thV b):a=b:=by
 obtain⟨p,ts⟩:=a;obtain⟨q,us⟩:=b;simp only[thV,yK,Value.agg.injEq,Array.mk.injEq,List.cons.injEq,Value.string.injEq,and_true] at h;obtain⟨hp,h0,h1,h2,h3⟩:=h;subst hp;have hn:∀ i,i<4->zgm ts i=zgm us i:=λ i hi=>by
  match i,hi with
  | 0,_=>exact h0
  | 1,_=>exact h1
  | 2,_=>exact h2
  | 3,_=>exact h3
 have hf:ts.length<=4:=ha.gH;have hg:us.length<=4:=hb.gH;have hl:ts.length=us.length:=by
  rcases Nat.lt_trichotomy ts.length us.length with h | h | h
  ·have e:=hn ts.length (by omega);have p1:0<(zgm us ts.length).size:=zt2 hb h;have p2:=zpx (l:=ts) L9;rw[e] at p2;omega
  ·exact h
  ·have e:=hn us.length (by omega);have p1:0<(zgm ts us.length).size:=zt2 ha h;have p2:=zpx (l:=us) L9;rw[<-e] at p2;omega
 congr 1
 refine List.ext_getElem hl λ i h1 h2=>?_
 have:=hn i (by omega);unfold zgm at this;rw[List.getElem?_eq_getElem h1,List.getElem?_eq_getElem h2] at this;exact this
theorem zq0:ArrKey Tryz.prog 88 9 5:=⟨Tryz.underlying88,by kernel_rfl,by kernel_rfl,by kernel_rfl⟩
theorem yal:KeyLaw Tryz.prog 88:=zq0.law
theorem zds:Keyed Tryz.prog 88:=Keyed.of_law yal
theorem zuq:∃ m,Tryz.prog.types.size=m+1:=⟨Tryz.prog.types.size-1,by have:0<Tryz.prog.types.size:=of_decide_eq_true (by kernel_rfl);omega⟩
theorem z8h (h:zhm t):∃ l,keyOf Tryz.prog 88 (thV t)=some l:=by
 have XW:=zq0.keyType zuq;obtain⟨m,hm⟩:=zuq;have s0:t.p.size<=maxLen:=by have:=h.pd;unfold maxLen;omega
 have s1:∀ i,(zgm t.ts i).size<=maxLen:=λ i=>by have:=z7s h i;unfold maxLen;omega
 unfold keyOf;simp only[zq0.hu];rw[if_pos (by simp[XW,Value.formed,zq0.hu,zq0.size,thV,yK]),hm];unfold Program.keyLits;simp only[zq0.hu,thV,Value.cells];rw[if_pos (by rw[zq0.size];rfl),show List.range 5=[0,1,2,3,4] from rfl,List.mapM_cons,List.mapM_cons,List.mapM_cons,List.mapM_cons,List.mapM_cons,List.mapM_nil];simp[zq0.one,Program.keyLits,yK,Tryz.underlying9,s0,s1]
def j2 (L:List (Th × Nat))(t:Th):Option Nat:=(L.find? λ p=>decide (p.1=t)).map (·.2)
def zrb (L:List (Th × Nat))(t:Th)(h:Nat):List (Th × Nat):=if (j2 L t).isSome then L.map (λ p=>if p.1=t then (t,h) else p) else L++[(t,h)]
variable {n:Nat} {L:List (Th × Nat)}
theorem Jn (h:j2 L t=some n):(t,n)∈L:=by
 unfold j2 at h;obtain⟨p,hp,rfl⟩:=Option.map_eq_some_iff.1 h;have h1:=List.mem_of_find?_eq_some hp;have h2:=List.find?_some hp;rw[<-of_decide_eq_true h2];exact h1
theorem zbu (h:j2 L t=none):∀ n,(t,n)∉L:=by
 intro n hn;unfold j2 at h;rw[Option.map_eq_none_iff,List.find?_eq_none] at h;exact h _ hn (decide_eq_true rfl)
theorem z3x (hd:(L.map (·.1)).Nodup)(h:(t,n)∈L):j2 L t=some n:=by
 cases hl:j2 L t with
 | none=>exact absurd h (zbu hl n)
 | some m=>
  have h1:=Jn hl;have:∀ (L:List (Th × Nat)),(L.map (·.1)).Nodup->(t,n)∈L->(t,m)∈L->m=n:=by
   intro L
   induction L with
   | nil=>intro _ h;cases h
   | cons x r ih=>
    intro hd h1 h2;rw[List.map_cons,List.nodup_cons] at hd;rcases List.mem_cons.1 h1 with e1 | e1 <;> rcases List.mem_cons.1 h2 with e2 | e2
    ·have:=e1.trans e2.symm;injection this with _ this;exact this.symm
    ·exact absurd (List.mem_map_of_mem (f:=Prod.fst) e2) (by rw[<-e1] at hd;exact hd.1)
    ·exact absurd (List.mem_map_of_mem (f:=Prod.fst) e1) (by rw[<-e2] at hd;exact hd.1)
    ·exact ih hd.2 e1 e2
  rw[this L hd h h1]
def jg (w:W8)(b:Nat)(L:List (Th × Nat)):Prop:=
 ∃ D:DataW Value,w.ownsMap Tryz.prog 88 jK b L.length D/\Maps.size D=L.length/\(L.map (·.1)).Nodup/\(∀ p∈L,zhm p.1) /\
  (∀ p∈L,∀ l,keyOf Tryz.prog 88 (thV p.1)=some l->Maps.has D l=true/\∀ z,D.atKey l z=.held (.int .i64 p.2)) /\
  (∀ l,Maps.has D l=true->∃ p∈L,keyOf Tryz.prog 88 (thV p.1)=some l)
theorem jg.made (w:W8):jg (w.alloc (.map #[] 0)) w.heap.size []:=
 ⟨.map [],World.ownsMap_made w _ _ jK,rfl,by simp,by simp,by simp,λ l h=>by cases h⟩
variable {b:Nat} {w:W8}
theorem jg.lt (h:jg w b L):b<w.heap.size:=by obtain⟨D,hD,_⟩:=h;exact hD.lt
theorem jg.nodup (h:jg w b L):(L.map (·.1)).Nodup:=by obtain⟨D,_,_,h,_⟩:=h;exact h
theorem jg.kept {w w':W8}{b:Nat}{L:List (Th × Nat)}{row:Option Nat}(h:jg w b L)(hg:w.grownBy w' row)(hr:some b≠row):jg w' b L:=by
 obtain⟨D,hD,h⟩:=h;exact⟨D,hD.kept hg hr,h⟩
variable {w':W8}
theorem jg.block (h:jg w b L)(hb:w'.heap[b]?=w.heap[b]?):jg w' b L:=by
 obtain⟨D,⟨es,clock,h1,h2⟩,h3⟩:=h;exact⟨D,⟨es,clock,hb.trans h1,h2⟩,h3⟩
theorem jg.alloc (h:jg w b L)(o:Obj):jg (w.alloc o) b L:=h.kept (World.grownBy_alloc w o none) (by simp)
theorem jg.isMap (h:jg w b L):∃ es clock,w.heap[b]?=some (.map es clock):=by
 obtain⟨D,⟨es,clock,h1,_⟩,_⟩:=h;exact⟨es,clock,h1⟩
theorem zhf {b:Th}{l:Lit}(ha:zhm a)(hb:zhm b)(h1:keyOf Tryz.prog 88 (thV a)=some l)(h2:keyOf Tryz.prog 88 (thV b)=some l):a=b:=z8j ha hb (zds.inj h1 h2)
theorem jg.look (h:jg w b L)(ht:zhm t){T:TypeId}(hT:Tryz.prog.underlying T=some (.map 88 3)):
  (Instr.lookup T (.map (some b)) (thV t) true).run Tryz.prog w=.ok (.tuple #[.int .i64 (((j2 L t).getD 0:Nat):Int),.bool (j2 L t).isSome]) w:=by
 obtain⟨D,hD,hs,hn,cd,aL,mR⟩:=h;obtain⟨l,hl⟩:=z8h ht;obtain⟨v,ps,nE,hv⟩:=hD.look_ok zds hT (z:=.int .i64 0) (by kernel_rfl) (zd:=.held (.int .i64 0)) (zp:=[]) rfl hl;have h1:=zev hv
 cases hk:j2 L t with
 | some n=>
  obtain⟨h2,h3⟩:=aL _ (Jn hk) l hl;rw[h3] at h1;have h1:=DataW.held.inj h1;subst h1;rw[h2] at nE;exact nE
 | none=>
  have h2:Maps.has D l=false:=by
   cases hh:Maps.has D l with
   | false=>rfl
   | true=>
    obtain⟨p,hp,b8⟩:=mR l hh;have e:=zhf (cd p hp) ht b8 hl;exact absurd (show (t,p.2)∈L by rw[<-e];exact hp) (zbu hk _)
  rw[Maps.atKey_of_not_has h2] at h1;have h1:=DataW.held.inj h1;subst h1;rw[h2] at nE;exact nE
theorem zse (L:List (Th × Nat))(t:Th)(n:Nat):(zrb L t n).length=if (j2 L t).isSome then L.length else L.length+1:=by
 unfold zrb
 split <;> simp
theorem zt9 {p:Th × Nat}(h:p∈zrb L t n):p=(t,n)\/(p∈L/\p.1≠t):=by
 unfold zrb at h
 split at h
 ·obtain⟨q,hq,rfl⟩:=List.mem_map.1 h
  split
  ·exact .inl rfl
  ·rename_i eI;exact .inr ⟨hq,eI⟩
 ·rename_i eI;rcases List.mem_append.1 h with h | h
  ·refine .inr ⟨h,λ e=>?_⟩;have aR:j2 L t=none:=(by simpa using eI);exact zbu aR p.2 (by rw[<-e];exact h)
  ·exact .inl (List.mem_singleton.1 h)
theorem Zo (L:List (Th × Nat))(t:Th)(n:Nat):(t,n)∈zrb L t n:=by
 unfold zrb
 split
 ·rename_i h;obtain⟨m,hm⟩:=Option.isSome_iff_exists.1 h;exact List.mem_map.2 ⟨_,Jn hm,by simp⟩
 ·simp
theorem zk9 {p:Th × Nat}(h:p∈L)(eI:p.1≠t):p∈zrb L t n:=by
 unfold zrb
 split
 ·exact List.mem_map.2 ⟨p,h,by simp[eI]⟩
 ·exact List.mem_append_left _ h
theorem z03:(zrb L t n).map (·.1)=if (j2 L t).isSome then L.map (·.1) else L.map (·.1)++[t]:=by
 unfold zrb
 split
 ·rw[List.map_map];refine List.map_congr_left λ p _=>?_
  simp only[Function.comp]
  split
  ·rename_i e;exact e.symm
  ·rfl
 ·simp
theorem Zq (h:(L.map (·.1)).Nodup):((zrb L t n).map (·.1)).Nodup:=by
 rw[z03]
 split
 ·exact h
 ·rename_i eI;refine List.nodup_append.2 ⟨h,by simp,λ a ha b hb=>?_⟩;rw[List.mem_singleton.1 hb];rintro rfl;obtain⟨p,hp,e⟩:=List.mem_map.1 ha;have aR:j2 L a=none:=by simpa using eI
  exact zbu aR p.2 (by rw[<-e];exact hp)
theorem zny {P:Program}{K:TypeId}{D:DataW Value}(h:w.ownsMap P K jK b n D):w.ownsMap P K jK b (Maps.size D) D:=by
 obtain⟨es,clock,hb,F,hs,rfl⟩:=h;exact⟨es,clock,hb,F,by simp[Maps.size,length_sorted],rfl⟩
theorem jg.put {w:W8}{b:Nat}{L:List (Th × Nat)}(h:jg w b L){t:Th}(ht:zhm t)(n:Nat)(hL:L.length<maxLen){T:TypeId}(hT:Tryz.prog.underlying T=some (.map 88 3)):
  ∃ w',(Instr.mapUpdate T (.map (some b)) (thV t) (.int .i64 n)).run Tryz.prog w=.ok () w'/\jg w' b (zrb L t n)/\w.mapTurned w' b:=by
 obtain⟨D,hD,hs,hn,cd,aL,mR⟩:=h;obtain⟨l,hl⟩:=z8h ht;obtain⟨w',nE,aC,Mc⟩:=hD.store zds hT hL hl (val:=.int .i64 n) (d:=.held (.int .i64 n)) (ps:=[]) rfl;have eU:=zds.key hl;have GL:Maps.has D l=(j2 L t).isSome:=by
  cases hk:j2 L t with
  | some m=>exact (aL _ (Jn hk) l hl).1
  | none=>
   cases hh:Maps.has D l with
   | false=>rfl
   | true=>
    obtain⟨p,hp,b8⟩:=mR l hh;have e:=zhf (cd p hp) ht b8 hl;exact absurd (show (t,p.2)∈L by rw[<-e];exact hp) (zbu hk _)
 have aT:Maps.size (D.put l (.held (.int .i64 n)))=(zrb L t n).length:=by
  rw[Maps.size_put (hD.tidy zds),GL,zse,hs]
 refine⟨w',nE,⟨_,?_,aT,Zq hn,λ p hp=>?_,λ p hp l' rG=>?_,λ l' rG=>?_⟩,Mc⟩
 ·rw[<-aT];exact zny aC
 ·rcases zt9 hp with rfl | ⟨hp,_⟩
  ·exact ht
  ·exact cd p hp
 ·rcases zt9 hp with rfl | ⟨hp,eI⟩
  ·have e:l'=l:=Option.some.inj (rG.symm.trans hl);subst e;exact⟨Maps.has_put_same hD.isMap eU _,λ z=>Maps.atKey_put_same hD.isMap eU _ _⟩
  ·have G9:l'≠l:=λ e=>eI (zhf (cd p hp) ht (e ▸ rG) hl)
   obtain⟨h1,h2⟩:=aL p hp l' rG;exact⟨(Maps.has_put_other G9 _).trans h1,λ z=>(Maps.atKey_put_other G9 _ _).trans (h2 z)⟩
 ·by_cases e:l'=l
  ·subst e;exact⟨_,Zo L t n,hl⟩
  ·rw[Maps.has_put_other e] at rG;obtain⟨p,hp,b8⟩:=mR l' rG;exact⟨p,zk9 hp (λ e'=>e (Option.some.inj ((e' ▸ b8).symm.trans hl))),b8⟩
def yr (w:W8)(b r:Nat)(L:List (Th × Nat))(Lf:Th->Prop)(kC:Nat):Prop:=
 ∃ (D:DataW Value) (left:Lit->Bool),w.ranges Tryz.prog 88 jK b r L.length D left kC/\Maps.size D=L.length/\(L.map (·.1)).Nodup/\(∀ p∈L,zhm p.1) /\
  (∀ p∈L,∀ l,keyOf Tryz.prog 88 (thV p.1)=some l->Maps.has D l=true/\∀ z,D.atKey l z=.held (.int .i64 p.2)) /\
  (∀ l,Maps.has D l=true->∃ p∈L,keyOf Tryz.prog 88 (thV p.1)=some l) /\
  (∀ p∈L,∀ l,keyOf Tryz.prog 88 (thV p.1)=some l->(left l=true↔Lf p.1))
variable {kC r:Nat} {Lf:Th->Prop}
theorem yr.map (h:yr w b r L Lf kC):jg w b L:=by
 obtain⟨D,left,h1,h2,h3,h4,h5,h6,_⟩:=h;exact⟨D,h1.owns,h2,h3,h4,h5,h6⟩
theorem yr.lt {w:W8}{b r:Nat}{L:List (Th × Nat)}{Lf:Th->Prop}{kC:Nat}(h:yr w b r L Lf kC):r<w.heap.size:=by
 obtain⟨D,left,h1,_⟩:=h;exact h1.lt
theorem yr.blocks (h:yr w b r L Lf kC)(hb:w'.heap[b]?=w.heap[b]?)(hr:w'.heap[r]?=w.heap[r]?):yr w' b r L Lf kC:=by
 obtain⟨D,left,⟨es,clock,since,seen,c0,h1,F,hs,hD,h2,rest⟩,h3⟩:=h;exact⟨D,left,⟨es,clock,since,seen,c0,hb.trans h1,F,hs,hD,hr.trans h2,rest⟩,h3⟩
theorem yr.iter (h:yr w b r L Lf kC):∃ o:Obj,w.heap[r]?=some o/\o.isWalk=true:=by
 obtain⟨D,left,⟨es,clock,since,seen,c0,_,_,_,_,h2,_⟩,_⟩:=h;exact⟨_,h2,rfl⟩
section
variable (w:W8) {ops:Array Oper} {rest:List Oper} {o:Oper} {a:Act} {Q:Exit->Act->W8->Prop}
theorem z2f (hg:o.guard=none)(m:Operand)(t:TypeId)(tO:o.op=Op.range t m)(ht:Tryz.prog.underlying t=some (.map 88 3))(b:Nat)(L:List (Th × Nat))
  (hm:a.eval m=.map (some b)) (aC:jg w b L)
  (hQ:∀ w',yr w' b w.heap.size L (λ _=>True) L.length->w.grownBy w' none->w'.heap.size=w.heap.size+1->wpList Tryz.prog ops Q rest (a.put o.dst (.pointer (some ⟨w.heap.size,0,none⟩))) w'):
  wpList Tryz.prog ops Q (o::rest) a w:=by
 obtain⟨D,hD,hs,hn,cd,aL,mR⟩:=aC;refine wpList_range_own w hg m t tO 88 3 zds ht jK b L.length D hm hD λ w' h1 h2 mh=>hQ w' ⟨D,_,by rw[<-hs] at h1 ⊢;exact h1,hs,hn,cd,aL,mR,λ p hp l hl=>?_⟩ h2 mh
 exact⟨λ _=>trivial,λ _=>(aL p hp l hl).1⟩
theorem z5o (hg:o.guard=none)(it:Operand)(tO:o.op=Op.next it false)(b r:Nat)(L:List (Th × Nat))(Lf:Th->Prop)(kC:Nat)
  (Qi:a.eval it=.pointer (some ⟨r,0,none⟩)) (h:yr w b r L Lf kC)
  (Bn:(∀ p∈L,¬ Lf p.1)->wpList Tryz.prog ops Q rest (a.put o.dst (.tuple #[.bool false])) w)
  (Bo:∀ (t:Th) (n:Nat) (w':W8) (rX:Nat),(t,n)∈L->Lf t->yr w' b r L (λ x=>Lf x/\x≠t) rX->rX<kC->w.grownBy w' (some r)->w'.heap.size=w.heap.size ->
   (Instr.entry (.pointer (some ⟨r,0,none⟩))).run Tryz.prog w'=.ok (.tuple #[thV t,.int .i64 n]) w'->wpList Tryz.prog ops Q rest (a.put o.dst (.tuple #[.bool true,thV t,.int .i64 n])) w'):
  wpList Tryz.prog ops Q (o::rest) a w:=by
 obtain⟨D,left,h1,hs,hn,cd,aL,mR,De⟩:=h;refine wpList_next_ranges w hg it tO 88 zds jK (id:Value->Value) (id:Value->Value) (λ key kl _=>⟨key,rfl⟩) (λ v y _=>⟨v,rfl⟩) b r L.length D left kC Qi h1
  (λ _ hl=>Bn λ p hp hf=>?_) ?_
 ·obtain⟨l,hk⟩:=z8h (cd p hp);have:=(De p hp l hk).2 hf;rw[hl] at this;cases this
 intro x c kl y w' rX hkey aE hv eS Cg aG sg aT GF;have GL:Maps.has D kl=true:=Maps.has_true_of_atKey eS;obtain⟨p,hp,b8⟩:=mR kl GL;have hx:x=thV p.1:=zds.inj hkey b8;have hy:=zev (v:=c) (d:=y.1) (ps:=y.2) hv;have hc:c=.int .i64 p.2:=by
  have e1:=eS (.held undef);rw[(aL p hp kl b8).2,hy] at e1;exact (DataW.held.inj e1).symm
 subst hx hc;refine Bo p.1 p.2 w' rX hp ((De p hp kl b8).1 aE) ⟨D,_,Cg,hs,hn,cd,aL,mR,λ q hq l hl=>?_⟩ aG sg aT GF;rw[Bool.and_eq_true,De q hq l hl,Bool.not_eq_true'];refine and_congr_right λ _=>⟨λ hs e=>?_,λ eI=>Maps.sameKey_ne λ e=>eI (zhf (cd q hq) (cd p hp) (e ▸ hl) b8)⟩
 rw[e] at hl;have hl:=Option.some.inj (b8.symm.trans hl);rw[<-hl,WideAt.sameKey_self (zds.key b8)] at hs
 cases hs
theorem zbr (hg:o.guard=none)(m x:Operand)(t:TypeId)(tO:o.op=Op.lookup t m x true)(ht:Tryz.prog.underlying t=some (.map 88 3))(b:Nat)(L:List (Th × Nat))
  (hm:a.eval m=.map (some b)) (aC:jg w b L) (th:Th) (hx:a.eval x=thV th) (ym:zhm th) (u:Value) (hu:(.int .i64 (((j2 L th).getD 0:Nat):Int))=u) (c:Bool) (hc:(j2 L th).isSome=c)
  (hQ:wpList Tryz.prog ops Q rest (a.put o.dst (.tuple #[u,.bool c])) w):
  wpList Tryz.prog ops Q (o::rest) a w:=by
 refine wpList_plain hg λ K' E6=>?_
 unfold Oper.wp;simp[execOp,tO,hm,hx,aC.look ym ht,Result.andThen];rw[hu,hc];exact E6 _ _ hQ
theorem z8m (hg:o.guard=none)(m x v:Operand)(t:TypeId)(tO:o.op=Op.mapUpdate t m x v)(ht:Tryz.prog.underlying t=some (.map 88 3))(b:Nat)(L:List (Th × Nat))
  (hm:a.eval m=.map (some b)) (aC:jg w b L) (hn:L.length<maxLen) (th:Th) (n:Nat) (hx:a.eval x=thV th) (hv:a.eval v=.int .i64 n) (ym:zhm th)
  (hQ:∀ w',jg w' b (zrb L th n)->w.mapTurned w' b->wpList Tryz.prog ops Q rest (a.put o.dst undef) w'):
  wpList Tryz.prog ops Q (o::rest) a w:=by
 refine wpList_plain hg λ K' E6=>?_
 obtain⟨w',nE,h1,h2⟩:=aC.put ym n hn ht;unfold Oper.wp;simp[execOp,tO,hm,hx,hv,nE,Result.andThen];exact E6 _ _ (hQ w' h1 h2)
end
end
end Go.Proofs.YtldkpahaocjdpaaGreat
