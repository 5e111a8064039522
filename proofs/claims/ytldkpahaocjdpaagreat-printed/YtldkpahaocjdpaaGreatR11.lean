/-
  A map with strings for keys, as a plain function from texts to values: what a look-up finds, what a store leaves.
-/
import Derived.Maps.OwnSet
import Derived.Test.YtldkpahaocjdpaaGreatR10
import Derived.Maps.RangeWalk
import Derived.DeepKeys4
import Derived.WideKeyArr
import Derived.RangeFuncSeq
set_option maxHeartbeats 16000000
set_option maxRecDepth 1000000
namespace Go.Proofs.YtldkpahaocjdpaaGreat
section
open Go.RowKit Go.Maps Go.ChangeMaps Go.WideMaps
def bD (v:Value):Option (DataW Value × List MemPlace):=some (.held v,[])
def keyS (s:B8):Lit:=.string s.data.toList
theorem keyS_ne {a b:B8}(h:a≠b):keyS a≠keyS b:=λ e=>h (by
 have:a.data.toList=b.data.toList:=by simpa[keyS] using e
 exact ByteArray.ext (Array.toList_inj.1 this))
open Classical in
noncomputable def updV (V:B8->Option Value)(k:B8)(v:Value):B8->Option Value:=λ x=>if x=k then some v else V x
theorem updV_same (V:B8->Option Value)(k:B8)(v:Value):updV V k v k=some v:=by simp[updV]
theorem updV_other {V:B8->Option Value}{k x:B8}{v:Value}(h:x≠k):updV V k v x=V x:=by simp[updV,h]
def SMap (P:Program)(K:TypeId)(w:W8)(b n:Nat)(V:B8->Option Value):Prop:=
 ∃ D:DataW Value,w.ownsMap P K bD b n D/\∀ k:B8,Maps.has D (keyS k)=(V k).isSome/\∀ z,D.atKey (keyS k) (.held z)=.held ((V k).getD z)
theorem SMap.made (P:Program)(K:TypeId)(w:W8):SMap P K (w.alloc (.map #[] 0)) w.heap.size 0 (λ _=>none):=
 ⟨.map [],World.ownsMap_made w P K bD,λ _=>⟨rfl,λ _=>rfl⟩⟩
theorem SMap.lt {P:Program}{K:TypeId}{w:W8}{b n:Nat}{V:B8->Option Value}(h:SMap P K w b n V):b<w.heap.size:=by
 obtain⟨D,hD,_⟩:=h;exact hD.lt
theorem SMap.block {P:Program}{K:TypeId}{w w':W8}{b n:Nat}{V:B8->Option Value}(h:SMap P K w b n V)(hb:w'.heap[b]?=w.heap[b]?):SMap P K w' b n V:=by
 obtain⟨D,⟨es,clock,h1,h2⟩,h3⟩:=h;exact⟨D,⟨es,clock,hb.trans h1,h2⟩,h3⟩
theorem SMap.alloc {P:Program}{K:TypeId}{w:W8}{b n:Nat}{V:B8->Option Value}(h:SMap P K w b n V)(o:Obj):SMap P K (w.alloc o) b n V:=by
 obtain⟨D,hD,h3⟩:=h;exact⟨D,hD.alloc o,h3⟩
theorem SMap.mono {P:Program}{K:TypeId}{w:W8}{b n m:Nat}{V:B8->Option Value}(h:SMap P K w b n V)(hn:n<=m):SMap P K w b m V:=by
 obtain⟨D,hD,h3⟩:=h;exact⟨D,hD.mono hn,h3⟩
theorem held_inj {v:Value}{d:DataW Value}{ps:List MemPlace}(h:bD v=some (d,ps)):d=.held v:=by
 simp only[bD,Option.some.injEq,Prod.mk.injEq] at h;exact h.1.symm
section
variable {P:Program} (w:W8) {ops:Array Oper} {rest:List Oper} {o:Oper} {a:Act} {Q:Exit->Act->W8->Prop}
theorem wp_look_ok (hg:o.guard=none)(m x:Operand)(t:TypeId)(jQ:o.op=Op.lookup t m x true)
  (K e:TypeId) (hK:P.underlying K=some .string) (ht:P.underlying t=some (.map K e)) {z:Value} (hz:(zeroValue e).run P w=.ok z w) (b n:Nat) (V:B8->Option Value)
  (hm:a.eval m=.map (some b)) (aI:SMap P K w b n V) (key:B8) (hx:a.eval x=.string key) (du:key.size<=maxLen) (u:Value) (hu:(V key).getD z=u) (c:Bool) (hc:(V key).isSome=c)
  (hQ:wpList P ops Q rest (a.put o.dst (.tuple #[u,.bool c])) w):
  wpList P ops Q (o::rest) a w:=by
 obtain⟨D,hD,h3⟩:=aI;refine wpList_lookup_own_ok w hg m x t jQ K e (string_keyed hK) ht bD hz (.held z) [] rfl b n D hm hD (.string key) (keyS key) hx (keyOf_string_mk hK du) (λ v ps hv=>?_);have h1:=held_inj hv;rw[(h3 key).2 z] at h1;have h2:(V key).getD z=v:=by injection h1
 rw[(h3 key).1,hc,<-h2,hu];exact hQ
theorem wp_look (hg:o.guard=none)(m x:Operand)(t:TypeId)(jQ:o.op=Op.lookup t m x false)
  (K e:TypeId) (hK:P.underlying K=some .string) (ht:P.underlying t=some (.map K e)) {z:Value} (hz:(zeroValue e).run P w=.ok z w) (b n:Nat) (V:B8->Option Value)
  (hm:a.eval m=.map (some b)) (aI:SMap P K w b n V) (key:B8) (hx:a.eval x=.string key) (du:key.size<=maxLen) (u:Value) (hu:(V key).getD z=u)
  (hQ:wpList P ops Q rest (a.put o.dst u) w):
  wpList P ops Q (o::rest) a w:=by
 refine wpList_plain hg λ K' hK'=>?_
 obtain⟨D,hD,h3⟩:=aI;obtain⟨v,ps,fC,hv⟩:=hD.lookup (string_keyed hK) ht hz (zd:=.held z) (zp:=[]) rfl (keyOf_string_mk hK du);have h1:=held_inj hv;rw[show DataW.atKey D (Lit.string key.data.toList) (DataW.held z)=DataW.held ((V key).getD z) from (h3 key).2 z] at h1;have h2:(V key).getD z=v:=by injection h1
 rw[<-h2,hu] at fC;unfold Oper.wp;simp[execOp,jQ,hm,hx,fC,Result.andThen];exact hK' _ _ hQ
theorem wp_put (hg:o.guard=none)(m x v:Operand)(t:TypeId)(jQ:o.op=Op.mapUpdate t m x v)
  (K e:TypeId) (hK:P.underlying K=some .string) (ht:P.underlying t=some (.map K e)) (b n:Nat) (V:B8->Option Value)
  (hm:a.eval m=.map (some b)) (aI:SMap P K w b n V) (hn:n<maxLen) (key:B8) (u:Value) (hx:a.eval x=.string key) (hv:a.eval v=u) (du:key.size<=maxLen)
  (hQ:∀ w',SMap P K w' b (n+1) (updV V key u)->w.grownBy w' (some b)->wpList P ops Q rest (a.put o.dst undef) w'):
  wpList P ops Q (o::rest) a w:=by
 obtain⟨D,hD,h3⟩:=aI;refine wpList_mapUpdate_own w hg m x v t jQ K e (string_keyed hK) ht bD b n D hm hD hn (.string key) u (keyS key) hx hv (keyOf_string_mk hK du) (.held u) [] rfl (λ w' h1 h2=>hQ w' ⟨_,h1,λ k=>?_⟩ h2)
 by_cases e:k=key
 ·subst e;rw[updV_same];exact⟨Maps.has_put_same hD.isMap (by trivial) _,λ z=>Maps.atKey_put_same hD.isMap (by trivial) _ _⟩
 ·rw[updV_other e];exact⟨(Maps.has_put_other (keyS_ne e) _).trans (h3 k).1,λ z=>(Maps.atKey_put_other (keyS_ne e) _ _).trans ((h3 k).2 z)⟩
end
end
section
open Go.RowKit Go.Maps
theorem flat_at {α:Type}(f:α->V8)(n:Nat)(hn:∀ x,(f x).length=n):∀ (l:List α) (k j:Nat) (hk:k<l.length),j<n->(l.flatMap f)[k*n+j]?=(f l[k])[j]?:=by
 intro l
 induction l with
 | nil=>intro k j hk;simp at hk
 | cons x r ih=>
  intro k j hk hj;have hl:=hn x;rw[List.flatMap_cons]
  cases k with
  | zero=>rw[List.getElem?_append_left (by omega)];simp
  | succ k=>
   rw[List.getElem?_append_right (by rw[hl,Nat.succ_mul];omega)];have e2:(k+1)*n+j-(f x).length=k*n+j:=(by rw[hl,Nat.succ_mul];omega);rw[e2,ih k j (by simpa using hk) hj];simp
variable {v:Value} {e:TypeId} {base n:Nat} {w:W8}
theorem row_at {α:Type}{f:α->V8}(hn:∀ x,(f x).length=n){l:List α}(h:w.ownsRow base e n v l.length (l.flatMap f))(k:Nat)(hk:k<l.length):∃ g cap,v=.slice (some ⟨g,0,none⟩) l.length cap/\base<=g/\g<w.heap.size/\l.length<=cap/\cap<=maxLen/\∀ j,j<n->w.cell? ⟨g,k*n+j,none⟩=(f l[k])[j]?:=by
 rcases h.2 with⟨_,h0⟩ | ⟨g,cap,cur,rfl,hb,hg,dG,dx,eZ,ht⟩
 ·omega
 ·have hl:=(Array.getElem?_eq_some_iff.1 hg).1;refine⟨g,cap,rfl,hb,hl,dG,dx,λ j hj=>?_⟩;have:(k+1)*n<=l.length*n:=Nat.mul_le_mul_right n hk;rw[h.cellAt (k*n+j) (by rw[Nat.succ_mul] at this;omega),flat_at f n hn l k j hk hj]
theorem men_len (x:PMen × Value):(x.1.cells x.2).length=10:=rfl
variable {w':W8}
theorem own_below {size:Nat}{xs:V8}{m:Nat}(h:w.ownsRow base e size v n xs)(hb:Below m w w')(hm:∀ g,v.ownBlock=some g->g<m):w'.ownsRow base e size v n xs:=own_block h (λ g hg=>hb.block g (hm g hg))
variable {ms:List (PMen × Value)} {mv:Value}
theorem bL.below (h:bL w base mv ms)(hb:Below w.heap.size w w'):bL w' base mv ms:=
 ⟨own_below h.row hb (λ g e=>(h.row.lt g e).2),λ x hx=>own_below (h.each x hx) hb (λ g e=>((h.each x hx).lt g e).2)⟩
def numOf:P9->B8->Option Nat
 | [],_=>none
 | x::r,k=>if x.1.toList==k.toList then some x.2 else numOf r k
theorem num_ix (nm:B8):∀ (l:P9) (k:Nat),(ixFrom nm l k<0↔numOf l nm=none)/\(0<=ixFrom nm l k->numOf l nm=some (l.getD (ixFrom nm l k-k).toNat (nm,0)).2)
 | [],k=>by simp[ixFrom,numOf]
 | x::r,k=>by
  unfold ixFrom numOf
  by_cases h:(x.1.toList==nm.toList)=true
  ·rw[if_pos h,if_pos h];refine⟨by simp,λ _=>?_⟩;simp
  ·rw[if_neg h,if_neg h];obtain⟨h1,h2⟩:=num_ix nm r (k+1);refine⟨h1,λ h0=>?_⟩;rw[h2 h0];have:=(ix_lt nm r (k+1) h0).1;have e:(ixFrom nm r (k+1)-(k:Int)).toNat=(ixFrom nm r (k+1)-((k+1:Nat):Int)).toNat+1:=(by omega);rw[e];simp
theorem meetB_num (ps:P9)(nm:B8)(n:Nat):meetB ps nm n=match numOf ps nm with | none=>true | some m=>m==n:=by
 obtain⟨h1,h2⟩:=num_ix nm ps 0;unfold meetB predIx
 by_cases h:ixFrom nm ps 0<0
 ·rw[if_pos h,h1.1 h]
 ·rw[if_neg h,h2 (by omega)];simp only[Int.natCast_zero,Int.sub_zero];rw[Bool.eq_iff_iff];simp;omega
theorem meetP_num (ps:P9)(nm:B8)(n:Nat):meetP ps nm n=if (numOf ps nm).isNone then ps++[(nm,n)] else ps:=by
 obtain⟨h1,h2⟩:=num_ix nm ps 0;unfold meetP predIx
 by_cases h:ixFrom nm ps 0<0
 ·rw[if_pos h,h1.1 h];rfl
 ·rw[if_neg h,h2 (by omega)];rfl
theorem num_snoc (ps:P9)(nm:B8)(n:Nat)(k:B8):numOf (ps++[(nm,n)]) k=match numOf ps k with | some m=>some m | none=>if nm.toList==k.toList then some n else none:=by
 induction ps with
 | nil=>rfl
 | cons x r ih=>
  rw[List.cons_append,numOf,numOf]
  split
  ·rfl
  ·exact ih
def arV (ps:P9):B8->Option Value:=λ k=>(numOf ps k).map λ n=>.int .i64 n
theorem arV_put (ps:P9)(nm:B8)(n:Nat)(h:meetB ps nm n=true):updV (arV ps) nm (.int .i64 n)=arV (meetP ps nm n):=by
 funext k
 rw[meetB_num] at h;rw[meetP_num]
 by_cases e:k=nm
 ·subst e;rw[updV_same];unfold arV
  cases hn:numOf ps k with
  | none=>
   rw[if_pos (by rfl),num_snoc,hn];simp
  | some m=>
   rw[hn] at h;simp at h;rw[if_neg (by simp),hn,h];rfl
 ·rw[updV_other e];unfold arV
  cases hn:numOf ps nm with
  | none=>
   rw[if_pos (by rfl),num_snoc];have:¬ (nm.toList==k.toList)=true:=λ h=>e ((aW.1 h).symm)
   cases numOf ps k with
   | none=>simp only[if_neg this]
   | some m=>rfl
  | some m=>rw[if_neg (by simp)]
def parity:List PMen->P9->Int
 | [],_=>-1
 | M::r,ps=>if meetB ps M.pd M.ts.length then parity r (meetP ps M.pd M.ts.length) else M.place
variable {k:Nat}
theorem parity_step (h:k<ms.length)(ps:P9):parity ((ms.map (·.1)).drop k) ps=if meetB ps ms[k].1.pd ms[k].1.ts.length then parity ((ms.map (·.1)).drop (k+1)) (meetP ps ms[k].1.pd ms[k].1.ts.length) else ms[k].1.place:=by
 rw[List.drop_eq_getElem_cons (by simpa using h),parity];simp
def found (x:Int):Ending:=.returned (.tuple #[.int .i64 (if 0<=x then x else 0),.bool (decide (0<=x))])
structure kD (w:W8)(base:Nat)(mv:Value)(ms:List (PMen × Value))(V:B8->Option Value)(k:Nat)(wr:W8):Prop where
 eh:bL wr base mv ms
 map:SMap Tryz.prog 9 wr (w.heap.size+1) k V
 below:Below w.heap.size w wr
theorem kD.alloc {w:W8}{base:Nat}{mv:Value}{ms:List (PMen × Value)}{V:B8->Option Value}{k:Nat}{wr:W8}(h:kD w base mv ms V k wr)(o:Obj):kD w base mv ms V k (wr.alloc o):=
 ⟨h.eh.below (B9.alloc L9 _),h.map.alloc o,h.below.alloc h.below.size _⟩
theorem kD.put {V V':B8->Option Value}{k':Nat}{wr w1:W8}(h:kD w base mv ms V k wr)(hm:SMap Tryz.prog 9 w1 (w.heap.size+1) k' V')(hg:wr.grownBy w1 (some (w.heap.size+1)))(Az:∀ g,mv.ownBlock=some g->g<w.heap.size)(JN:∀ x∈ms,∀ g,x.2.ownBlock=some g->g<w.heap.size):kD w base mv ms V' k' w1:=by
 have hs:=h.below.size;have hb:∀ g,g<w.heap.size->w1.heap[g]?=wr.heap[g]?:=λ g jo=>hg.block g (by omega) (by simp;omega)
 refine⟨⟨own_block h.eh.row (λ g e=>hb g (Az g e)),λ x hx=>own_block (h.eh.each x hx) (λ g e=>hb g (JN x hx g e))⟩,hm,h.below.trans ⟨hg.os,hg.tape,hg.output,hg.size,hb⟩⟩
theorem parity_any (w:W8)(base:Nat)(ar:O8)(nr cr:Nat)(am:O8)(cm:Nat)(ms:List (PMen × Value))(h:bL w base (.slice am ms.length cm) ms)(hl:ms.length<=1000)(eN:∀ x∈ms,x.1.pd.size<=800):
  Calls Tryz.prog 75 #[.agg #[.slice ar nr cr,.slice am ms.length cm]] w λ e w'=>e=found (parity (ms.map (·.1)) [])/\Below w.heap.size w w':=by
 have jA:=@run_makeMap Tryz.prog;have nV:=hide (λ g (e:(Value.slice am ms.length cm).ownBlock=some g)=>(h.row.lt g e).2);have Eh:=hide (λ x (hx:x∈ms) g (e:x.2.ownBlock=some g)=>((h.each x hx).lt g e).2);have h0:kD w base (.slice am ms.length cm) ms (arV []) 0 ((w.alloc (.cells #[.slice ar nr cr,.slice am ms.length cm] 100)).alloc (.map #[] 0)):=by
  have b1:=((Below.refl w.heap.size w).alloc L9 (.cells #[.slice ar nr cr,.slice am ms.length cm] 100)).alloc (by simp) (.map #[] 0);refine⟨h.below b1,?_,b1⟩;have:=SMap.made Tryz.prog 9 (w.alloc (.cells #[.slice ar nr cr,.slice am ms.length cm] 100));rw[World.size_alloc] at this;exact this
 clear h;go_enter Tryz.func75,Tryz.ntmps75;go_wp2_with fail
 go_loopg [13] ms.length (λ gg i wr=>∃ (k:Nat) (ps:P9),k<=ms.length/\gg=ms.length-k/\i=.int .i64 k/\kD w base (.slice am ms.length cm) ms (arV ps) k wr/\parity (ms.map (·.1)) []=parity ((ms.map (·.1)).drop k) ps)
 exact⟨0,[],Nat.zero_le _,rfl,rfl,h0,rfl⟩
 case round=>
  clear h0;obtain⟨k,ps,hk,fM,rfl,hinv,bj⟩:=hrel;have HF:=hide bj;clear bj
  by_cases aN:k<ms.length
  ·have bK:=hide ((ad HF).trans (parity_step aN ps));obtain⟨g,cap,hv,iC,dp,dG,dx,hc⟩:=row_at men_len hinv.eh.row k aN;injection hv with h1 h2 h3
   subst h1 h3;obtain⟨cy,fJ,gU⟩:=own_slice (hinv.eh.each _ (List.getElem_mem aN));have gl:=own_max (hinv.eh.each _ (List.getElem_mem aN));unfold maxLen at gl;have q0:=hc 0 (by omega);have q1:=hc 1 (by omega);have q2:=hc 2 (by omega);have q3:=hc 3 (by omega);have q4:=hc 4 (by omega);have q5:=hc 5 (by omega);have q6:=hc 6 (by omega);have q7:=hc 7 (by omega);have q8:=hc 8 (by omega);have q9:=hc 9 (by omega);simp only[PMen.cells,gU,Nat.add_zero,List.getElem?_cons_zero,List.getElem?_cons_succ] at q0 q1 q2 q3 q4 q5 q6 q7 q8 q9;have mJ:=eN _ (List.getElem_mem aN);have du:ms[k].1.pd.size<=maxLen:=(by unfold maxLen;omega);have hI:=hinv.alloc (.cells #[.int .i64 ms[k].1.num,.bool ms[k].1.neg,.string ms[k].1.pd,.slice cy ms[k].1.ts.length fJ,.int .i64 ms[k].1.start,.int .i64 ms[k].1.place,.int .i64 (ms[k].1.pl 0),.int .i64 (ms[k].1.pl 1),.int .i64 (ms[k].1.pl 2),.int .i64 (ms[k].1.pl 3)] 221);have gP:=hI.map;have HI:=hide hI;clear hc HF hinv hI gU
   cases hn:numOf ps ms[k].1.pd with
   | none=>
    have hb:meetB ps ms[k].1.pd ms[k].1.ts.length=true:=(by rw[meetB_num,hn]);have dE:=hide ((ad bK).trans (if_pos hb));have HP:=hide (arV_put ps _ _ hb);have hu:(arV ps ms[k].1.pd).getD (.int .i64 0)=.int .i64 0:=(by simp[arV,hn]);have hc:(arV ps ms[k].1.pd).isSome=false:=(by simp[arV,hn]);clear bK hb hn;go_wp2_with (first | (at_lookup;refine wp_look_ok _ rfl _ _ 218 rfl 9 3 Tryz.underlying9 Tryz.underlying218 (Tryz.zeroValue3 _) (w.heap.size+1) k (arV ps) rfl gP ms[k].1.pd rfl du _ hu _ hc ?_) | (at_mapUpdate;refine wp_put _ rfl _ _ _ 218 rfl 9 3 Tryz.underlying9 Tryz.underlying218 (w.heap.size+1) k (arV ps) rfl gP (by unfold maxLen;omega) ms[k].1.pd (.int .i64 ms[k].1.ts.length) (by rfl) (by rfl) du ?_));intro w2 eG dd;have dw:=(ad HI).put eG dd (ad nV) (ad Eh);rw[ad HP] at dw;have fG:=hide dw;clear HI eG dd dw gP;go_wp2_with fail;go_roundg (ms.length-(k+1));exact⟨k+1,_,by omega,rfl,by go_num,ad fG,ad dE⟩;omega
   | some m=>
    have hu:(arV ps ms[k].1.pd).getD (.int .i64 0)=.int .i64 m:=(by simp[arV,hn]);have hc:(arV ps ms[k].1.pd).isSome=true:=by simp[arV,hn]
    by_cases jB:m=ms[k].1.ts.length
    ·have hb:meetB ps ms[k].1.pd ms[k].1.ts.length=true:=(by rw[meetB_num,hn];simp[jB]);have dE:=hide ((ad bK).trans (if_pos hb));have HP:=hide (arV_put ps _ _ hb);have bG:((m:Int) != (ms[k].1.ts.length:Int))=false:=(by simp[jB]);clear bK hb hn jB;go_wp2_with (first | (at_lookup;refine wp_look_ok _ rfl _ _ 218 rfl 9 3 Tryz.underlying9 Tryz.underlying218 (Tryz.zeroValue3 _) (w.heap.size+1) k (arV ps) rfl gP ms[k].1.pd rfl du _ hu _ hc ?_) | (at_mapUpdate;refine wp_put _ rfl _ _ _ 218 rfl 9 3 Tryz.underlying9 Tryz.underlying218 (w.heap.size+1) k (arV ps) rfl gP (by unfold maxLen;omega) ms[k].1.pd (.int .i64 ms[k].1.ts.length) (by rfl) (by rfl) du ?_));intro w2 eG dd;have dw:=(ad HI).put eG dd (ad nV) (ad Eh);rw[ad HP] at dw;have fG:=hide dw;clear HI eG dd dw gP;go_wp2_with fail;go_roundg (ms.length-(k+1));exact⟨k+1,_,by omega,rfl,by go_num,ad fG,ad dE⟩;omega
    ·have hb:meetB ps ms[k].1.pd ms[k].1.ts.length=false:=(by rw[meetB_num,hn];simp[jB]);have dE:=hide ((ad bK).trans (if_neg (by rw[hb];decide)));have bG:((m:Int) != (ms[k].1.ts.length:Int))=true:=(by simp;omega);clear bK hb hn jB;go_wp2_with (at_lookup;refine wp_look_ok _ rfl _ _ 218 rfl 9 3 Tryz.underlying9 Tryz.underlying218 (Tryz.zeroValue3 _) (w.heap.size+1) k (arV ps) rfl gP ms[k].1.pd rfl du _ hu _ hc ?_);go_wp2_with fail
     go_ret2
     refine⟨?_,(ad HI).below⟩;rw[ad dE];unfold found;rw[if_pos (by omega)];have:decide (0<=(ms[k].1.place:Int))=true:=by simp
     rw[this];rfl
  ·have bK:=hide (show parity (ms.map (·.1)) []=-1 by rw[ad HF,List.drop_of_length_le (by simp;omega)];rfl);have HI:=hide hinv;clear HF hinv;go_wp2_with fail
   go_ret2
   exact⟨by rw[ad bK];rfl,(ad HI).below⟩
end
section
open Go.RowKit Go.Maps Go.ChangeMaps Go.WideMaps
def fV (P:Program)(K:TypeId)(w:W8)(b r n:Nat)(V:B8->Option Value)(L:B8->Prop)(dF:Nat):Prop:=
 ∃ (D:DataW Value) (left:Lit->Bool),w.ranges P K bD b r n D left dF/\(∀ k:B8,Maps.has D (keyS k)=(V k).isSome/\∀ z,D.atKey (keyS k) (.held z)=.held ((V k).getD z))/\∀ k,left (keyS k)=true↔L k
theorem fV.alloc {P:Program}{K:TypeId}{w:W8}{b r n:Nat}{V:B8->Option Value}{L:B8->Prop}{dF:Nat}(h:fV P K w b r n V L dF)(o:Obj):fV P K (w.alloc o) b r n V L dF:=by
 obtain⟨D,left,h1,h2⟩:=h;exact⟨D,left,h1.alloc o,h2⟩
theorem keyOf_str {P:Program}{k:TypeId}(hk:P.underlying k=some .string){s:B8}{kl:Lit}(h:keyOf P k (.string s)=some kl):kl=keyS s:=by
 simp[keyOf,hk,mapKey] at h;exact h.2.symm
theorem keyOf_str_inv {P:Program}{k:TypeId}(hk:P.underlying k=some .string){key:Value}{kl:Lit}(h:keyOf P k key=some kl):∃ s,key=.string s:=by
 cases key <;> simp[keyOf,hk,mapKey] at h
 exact⟨_,rfl⟩
section
variable {P:Program} (w:W8) {ops:Array Oper} {rest:List Oper} {o:Oper} {a:Act} {Q:Exit->Act->W8->Prop}
theorem wp_range (hg:o.guard=none)(m:Operand)(t:TypeId)(jQ:o.op=Op.range t m)(K e:TypeId)(hK:P.underlying K=some .string)(ht:P.underlying t=some (.map K e))(b n:Nat)(V:B8->Option Value)
  (hm:a.eval m=.map (some b)) (aI:SMap P K w b n V)
  (hQ:∀ w' dF,fV P K w' b w.heap.size n V (λ k=>(V k).isSome=true) dF->dF<=n->w.grownBy w' none->w'.heap.size=w.heap.size+1->wpList P ops Q rest (a.put o.dst (.pointer (some ⟨w.heap.size,0,none⟩))) w'):
  wpList P ops Q (o::rest) a w:=by
 obtain⟨D,hD,h3⟩:=aI;refine wpList_range_own w hg m t jQ K e (string_keyed hK) ht bD b n D hm hD λ w' h1 h2 hs=>hQ w' (Maps.size D) ⟨D,_,h1,h3,λ k=>by rw[(h3 k).1]⟩ ?_ h2 hs
 obtain⟨es,clock,_,_,hn,rfl⟩:=hD;rw[Maps.size_eq,(WideShapes.sorted_perm _).length_eq];simpa using hn
theorem wp_next (hg:o.guard=none)(it:Operand)(jQ:o.op=Op.next it false)(K:TypeId)(hK:P.underlying K=some .string)(b r n:Nat)(V:B8->Option Value)(L:B8->Prop)(dF:Nat)(mk:B8->Value)(qZ:∀ k u,V k=some u->u=mk k)
  (CF:a.eval it=.pointer (some ⟨r,0,none⟩)) (h:fV P K w b r n V L dF)
  (oM:(∀ k,¬ L k)->wpList P ops Q rest (a.put o.dst (.tuple #[.bool false])) w)
  (oN:∀ (k:B8) (w':W8) (j0:Nat),L k->V k=some (mk k)->fV P K w' b r n V (λ x=>L x/\x≠k) j0->j0<dF->w.grownBy w' (some r)->w'.heap.size=w.heap.size ->
   (Instr.entry (.pointer (some ⟨r,0,none⟩))).run P w'=.ok (.tuple #[.string k,mk k]) w'->wpList P ops Q rest (a.put o.dst (.tuple #[.bool true,.string k,mk k])) w'):
  wpList P ops Q (o::rest) a w:=by
 obtain⟨D,left,h1,h2,h3⟩:=h;refine wpList_next_ranges w hg it jQ K (string_keyed hK) bD Value.string (id:Value->Value) (λ key kl hkey=>keyOf_str_inv hK hkey) (λ v y _=>⟨v,rfl⟩) b r n D left dF CF h1 (λ _ hl=>oM λ k hk=>by rw[<-h3,hl] at hk;cases hk) ?_;intro x c kl y w' j0 hkey aN hv gT jf bP vH hsz oj;have du:=keyOf_str hK hkey;subst du;have hy:=held_inj (v:=c) (d:=y.1) (ps:=y.2) hv;have hV:V x=some c:=by
  have e1:=(h2 x).2 undef;have e2:=(h2 x).2 (.bool true);rw[gT,hy] at e1 e2;injection e1 with e1
  injection e2 with e2
  cases hVx:V x with
  | none=>rw[hVx] at e1 e2;rw[e1] at e2;cases e2
  | some u=>rw[hVx] at e1;rw[e1];rfl
 have hc:=qZ x c hV;subst hc;refine oN x w' j0 ((h3 x).1 aN) hV ⟨D,_,jf,h2,λ k=>?_⟩ bP vH hsz oj;rw[Bool.and_eq_true,h3,Bool.not_eq_true'];refine and_congr_right λ _=>⟨λ hs e=>?_,λ bG=>Maps.sameKey_ne (keyS_ne bG)⟩
 subst e;rw[WideAt.sameKey_self (by trivial)] at hs
 cases hs
end
end
section
open Go.RowKit Go.Maps Go.ChangeMaps Go.WideMaps
abbrev Th:=B8 × List B8
abbrev Th.p (t:Th):B8:=t.1
abbrev Th.ts (t:Th):List B8:=t.2
def nth4 (l:List B8)(i:Nat):B8:=(l[i]?).getD ⟨#[]⟩
def aq (t:Th):V8:=[.string t.p,.string (nth4 t.ts 0),.string (nth4 t.ts 1),.string (nth4 t.ts 2),.string (nth4 t.ts 3)]
def thV (t:Th):Value:=.agg (aq t).toArray
structure ThOk (t:Th):Prop where
 pd:t.p.size<=1000000000
 ft:t.ts.length<=4
 sz:∀ x∈t.ts,x.size<=1000000000
 ne:∀ x∈t.ts,0<x.size
theorem nth4_sz {t:Th}(h:ThOk t)(i:Nat):(nth4 t.ts i).size<=1000000000:=by
 unfold nth4;rcases Nat.lt_or_ge i t.ts.length with hi | hi
 ·rw[List.getElem?_eq_getElem hi];exact h.sz _ (List.getElem_mem hi)
 ·rw[List.getElem?_eq_none hi];simp[ByteArray.size]
theorem nth4_pos {t:Th}(h:ThOk t){i:Nat}(hi:i<t.ts.length):0<(nth4 t.ts i).size:=by
 unfold nth4;rw[List.getElem?_eq_getElem hi];exact h.ne _ (List.getElem_mem hi)
theorem nth4_zero {l:List B8}{i:Nat}(hi:l.length<=i):(nth4 l i).size=0:=by
 unfold nth4;rw[List.getElem?_eq_none hi];rfl
theorem thV_inj {a b:Th}(ha:ThOk a)(hb:ThOk b)(h:thV a=thV b):a=b:=by
 obtain⟨p,ts⟩:=a;obtain⟨q,us⟩:=b;simp only[thV,aq,Value.agg.injEq,Array.mk.injEq,List.cons.injEq,Value.string.injEq,and_true] at h;obtain⟨hp,h0,h1,h2,h3⟩:=h;subst hp;have hn:∀ i,i<4->nth4 ts i=nth4 us i:=λ i hi=>by
  match i,hi with
  | 0,_=>exact h0
  | 1,_=>exact h1
  | 2,_=>exact h2
  | 3,_=>exact h3
 have hf:ts.length<=4:=ha.ft;have hg:us.length<=4:=hb.ft;have hl:ts.length=us.length:=by
  rcases Nat.lt_trichotomy ts.length us.length with h | h | h
  ·have e:=hn ts.length (by omega);have p1:0<(nth4 us ts.length).size:=nth4_pos hb h;have p2:=nth4_zero (l:=ts) L9;rw[e] at p2;omega
  ·exact h
  ·have e:=hn us.length (by omega);have p1:0<(nth4 ts us.length).size:=nth4_pos ha h;have p2:=nth4_zero (l:=us) L9;rw[<-e] at p2;omega
 congr 1
 refine List.ext_getElem hl λ i h1 h2=>?_
 have:=hn i (by omega);unfold nth4 at this;rw[List.getElem?_eq_getElem h1,List.getElem?_eq_getElem h2] at this;exact this
theorem thArr:ArrKey Tryz.prog 88 9 5:=⟨Tryz.underlying88,by kernel_rfl,by kernel_rfl,by kernel_rfl⟩
theorem thLaw:KeyLaw Tryz.prog 88:=thArr.law
theorem thKeyed:Keyed Tryz.prog 88:=Keyed.of_law thLaw
theorem typesPos:∃ m,Tryz.prog.types.size=m+1:=⟨Tryz.prog.types.size-1,by have:0<Tryz.prog.types.size:=of_decide_eq_true (by kernel_rfl);omega⟩
theorem thKey {t:Th}(h:ThOk t):∃ l,keyOf Tryz.prog 88 (thV t)=some l:=by
 have JA:=thArr.keyType typesPos;obtain⟨m,hm⟩:=typesPos;have s0:t.p.size<=maxLen:=by have:=h.pd;unfold maxLen;omega
 have s1:∀ i,(nth4 t.ts i).size<=maxLen:=λ i=>by have:=nth4_sz h i;unfold maxLen;omega
 unfold keyOf;simp only[thArr.hu];rw[if_pos (by simp[JA,Value.formed,thArr.hu,thArr.size,thV,aq]),hm];unfold Program.keyLits;simp only[thArr.hu,thV,Value.cells];rw[if_pos (by rw[thArr.size];rfl),show List.range 5=[0,1,2,3,4] from rfl,List.mapM_cons,List.mapM_cons,List.mapM_cons,List.mapM_cons,List.mapM_cons,List.mapM_nil];simp[thArr.one,Program.keyLits,aq,Tryz.underlying9,s0,s1]
def ay (L:List (Th × Nat))(t:Th):Option Nat:=(L.find? λ p=>decide (p.1=t)).map (·.2)
def putN (L:List (Th × Nat))(t:Th)(h:Nat):List (Th × Nat):=if (ay L t).isSome then L.map (λ p=>if p.1=t then (t,h) else p) else L++[(t,h)]
theorem bp {L:List (Th × Nat)}{t:Th}{n:Nat}(h:ay L t=some n):(t,n)∈L:=by
 unfold ay at h;obtain⟨p,hp,rfl⟩:=Option.map_eq_some_iff.1 h;have h1:=List.mem_of_find?_eq_some hp;have h2:=List.find?_some hp;rw[<-of_decide_eq_true h2];exact h1
theorem lookN_none {L:List (Th × Nat)}{t:Th}(h:ay L t=none):∀ n,(t,n)∉L:=by
 intro n hn;unfold ay at h;rw[Option.map_eq_none_iff,List.find?_eq_none] at h;exact h _ hn (decide_eq_true rfl)
theorem lookN_of {L:List (Th × Nat)}(hd:(L.map (·.1)).Nodup){t:Th}{n:Nat}(h:(t,n)∈L):ay L t=some n:=by
 cases hl:ay L t with
 | none=>exact absurd h (lookN_none hl n)
 | some m=>
  have h1:=bp hl;have:∀ (L:List (Th × Nat)),(L.map (·.1)).Nodup->(t,n)∈L->(t,m)∈L->m=n:=by
   intro L
   induction L with
   | nil=>intro _ h;cases h
   | cons x r ih=>
    intro hd h1 h2;rw[List.map_cons,List.nodup_cons] at hd;rcases List.mem_cons.1 h1 with e1 | e1 <;> rcases List.mem_cons.1 h2 with e2 | e2
    ·have:=e1.trans e2.symm;injection this with _ this;exact this.symm
    ·exact absurd (List.mem_map_of_mem (f:=Prod.fst) e2) (by rw[<-e1] at hd;exact hd.1)
    ·exact absurd (List.mem_map_of_mem (f:=Prod.fst) e1) (by rw[<-e2] at hd;exact hd.1)
    ·exact ih hd.2 e1 e2
  rw[this L hd h h1]
def aM (w:W8)(b:Nat)(L:List (Th × Nat)):Prop:=
 ∃ D:DataW Value,w.ownsMap Tryz.prog 88 bD b L.length D/\Maps.size D=L.length/\(L.map (·.1)).Nodup/\(∀ p∈L,ThOk p.1) /\
  (∀ p∈L,∀ l,keyOf Tryz.prog 88 (thV p.1)=some l->Maps.has D l=true/\∀ z,D.atKey l z=.held (.int .i64 p.2)) /\
  (∀ l,Maps.has D l=true->∃ p∈L,keyOf Tryz.prog 88 (thV p.1)=some l)
theorem aM.made (w:W8):aM (w.alloc (.map #[] 0)) w.heap.size []:=
 ⟨.map [],World.ownsMap_made w _ _ bD,rfl,by simp,by simp,by simp,λ l h=>by cases h⟩
theorem aM.lt {w:W8}{b:Nat}{L:List (Th × Nat)}(h:aM w b L):b<w.heap.size:=by obtain⟨D,hD,_⟩:=h;exact hD.lt
theorem aM.ok {w:W8}{b:Nat}{L:List (Th × Nat)}(h:aM w b L):∀ p∈L,ThOk p.1:=by obtain⟨D,_,_,_,h,_⟩:=h;exact h
theorem aM.nodup {w:W8}{b:Nat}{L:List (Th × Nat)}(h:aM w b L):(L.map (·.1)).Nodup:=by obtain⟨D,_,_,h,_⟩:=h;exact h
theorem aM.kept {w w':W8}{b:Nat}{L:List (Th × Nat)}{row:Option Nat}(h:aM w b L)(hg:w.grownBy w' row)(hr:some b≠row):aM w' b L:=by
 obtain⟨D,hD,h⟩:=h;exact⟨D,hD.kept hg hr,h⟩
theorem aM.block {w w':W8}{b:Nat}{L:List (Th × Nat)}(h:aM w b L)(hb:w'.heap[b]?=w.heap[b]?):aM w' b L:=by
 obtain⟨D,⟨es,clock,h1,h2⟩,h3⟩:=h;exact⟨D,⟨es,clock,hb.trans h1,h2⟩,h3⟩
theorem aM.alloc {w:W8}{b:Nat}{L:List (Th × Nat)}(h:aM w b L)(o:Obj):aM (w.alloc o) b L:=h.kept (World.grownBy_alloc w o none) (by simp)
theorem aM.isMap {w:W8}{b:Nat}{L:List (Th × Nat)}(h:aM w b L):∃ es clock,w.heap[b]?=some (.map es clock):=by
 obtain⟨D,⟨es,clock,h1,_⟩,_⟩:=h;exact⟨es,clock,h1⟩
theorem thKey_inj {a b:Th}{l:Lit}(ha:ThOk a)(hb:ThOk b)(h1:keyOf Tryz.prog 88 (thV a)=some l)(h2:keyOf Tryz.prog 88 (thV b)=some l):a=b:=thV_inj ha hb (thKeyed.inj h1 h2)
theorem aM.look {w:W8}{b:Nat}{L:List (Th × Nat)}(h:aM w b L){t:Th}(ht:ThOk t){T:TypeId}(hT:Tryz.prog.underlying T=some (.map 88 3)):
  (Instr.lookup T (.map (some b)) (thV t) true).run Tryz.prog w=.ok (.tuple #[.int .i64 (((ay L t).getD 0:Nat):Int),.bool (ay L t).isSome]) w:=by
 obtain⟨D,hD,hs,hn,bX,bh,fj⟩:=h;obtain⟨l,hl⟩:=thKey ht;obtain⟨v,ps,fC,hv⟩:=hD.look_ok thKeyed hT (z:=.int .i64 0) (by kernel_rfl) (zd:=.held (.int .i64 0)) (zp:=[]) rfl hl;have h1:=held_inj hv
 cases hk:ay L t with
 | some n=>
  obtain⟨h2,h3⟩:=bh _ (bp hk) l hl;rw[h3] at h1;have h1:=DataW.held.inj h1;subst h1;rw[h2] at fC;exact fC
 | none=>
  have h2:Maps.has D l=false:=by
   cases hh:Maps.has D l with
   | false=>rfl
   | true=>
    obtain⟨p,hp,dP⟩:=fj l hh;have e:=thKey_inj (bX p hp) ht dP hl;exact absurd (show (t,p.2)∈L by rw[<-e];exact hp) (lookN_none hk _)
  rw[Maps.atKey_of_not_has h2] at h1;have h1:=DataW.held.inj h1;subst h1;rw[h2] at fC;exact fC
theorem putN_length (L:List (Th × Nat))(t:Th)(n:Nat):(putN L t n).length=if (ay L t).isSome then L.length else L.length+1:=by
 unfold putN
 split <;> simp
theorem putN_mem {L:List (Th × Nat)}{t:Th}{n:Nat}{p:Th × Nat}(h:p∈putN L t n):p=(t,n)\/(p∈L/\p.1≠t):=by
 unfold putN at h
 split at h
 ·obtain⟨q,hq,rfl⟩:=List.mem_map.1 h
  split
  ·exact .inl rfl
  ·rename_i bG;exact .inr ⟨hq,bG⟩
 ·rename_i bG;rcases List.mem_append.1 h with h | h
  ·refine .inr ⟨h,λ e=>?_⟩;have cP:ay L t=none:=(by simpa using bG);exact lookN_none cP p.2 (by rw[<-e];exact h)
  ·exact .inl (List.mem_singleton.1 h)
theorem eA (L:List (Th × Nat))(t:Th)(n:Nat):(t,n)∈putN L t n:=by
 unfold putN
 split
 ·rename_i h;obtain⟨m,hm⟩:=Option.isSome_iff_exists.1 h;exact List.mem_map.2 ⟨_,bp hm,by simp⟩
 ·simp
theorem mem_putN_other {L:List (Th × Nat)}{t:Th}{n:Nat}{p:Th × Nat}(h:p∈L)(bG:p.1≠t):p∈putN L t n:=by
 unfold putN
 split
 ·exact List.mem_map.2 ⟨p,h,by simp[bG]⟩
 ·exact List.mem_append_left _ h
theorem putN_keys {L:List (Th × Nat)}{t:Th}{n:Nat}:(putN L t n).map (·.1)=if (ay L t).isSome then L.map (·.1) else L.map (·.1)++[t]:=by
 unfold putN
 split
 ·rw[List.map_map];refine List.map_congr_left λ p _=>?_
  simp only[Function.comp]
  split
  ·rename_i e;exact e.symm
  ·rfl
 ·simp
theorem dZ {L:List (Th × Nat)}{t:Th}{n:Nat}(h:(L.map (·.1)).Nodup):((putN L t n).map (·.1)).Nodup:=by
 rw[putN_keys]
 split
 ·exact h
 ·rename_i bG;refine List.nodup_append.2 ⟨h,by simp,λ a ha b hb=>?_⟩;rw[List.mem_singleton.1 hb];rintro rfl;obtain⟨p,hp,e⟩:=List.mem_map.1 ha;have cP:ay L a=none:=by simpa using bG
  exact lookN_none cP p.2 (by rw[<-e];exact hp)
theorem ownsMap_tight {P:Program}{K:TypeId}{w:W8}{b n:Nat}{D:DataW Value}(h:w.ownsMap P K bD b n D):w.ownsMap P K bD b (Maps.size D) D:=by
 obtain⟨es,clock,hb,F,hs,rfl⟩:=h;exact⟨es,clock,hb,F,by simp[Maps.size,length_sorted],rfl⟩
theorem aM.put {w:W8}{b:Nat}{L:List (Th × Nat)}(h:aM w b L){t:Th}(ht:ThOk t)(n:Nat)(hL:L.length<maxLen){T:TypeId}(hT:Tryz.prog.underlying T=some (.map 88 3)):
  ∃ w',(Instr.mapUpdate T (.map (some b)) (thV t) (.int .i64 n)).run Tryz.prog w=.ok () w'/\aM w' b (putN L t n)/\w.mapTurned w' b:=by
 obtain⟨D,hD,hs,hn,bX,bh,fj⟩:=h;obtain⟨l,hl⟩:=thKey ht;obtain⟨w',fC,aI,zw⟩:=hD.store thKeyed hT hL hl (val:=.int .i64 n) (d:=.held (.int .i64 n)) (ps:=[]) rfl;have du:=thKeyed.key hl;have ur:Maps.has D l=(ay L t).isSome:=by
  cases hk:ay L t with
  | some m=>exact (bh _ (bp hk) l hl).1
  | none=>
   cases hh:Maps.has D l with
   | false=>rfl
   | true=>
    obtain⟨p,hp,dP⟩:=fj l hh;have e:=thKey_inj (bX p hp) ht dP hl;exact absurd (show (t,p.2)∈L by rw[<-e];exact hp) (lookN_none hk _)
 have hsz:Maps.size (D.put l (.held (.int .i64 n)))=(putN L t n).length:=by
  rw[Maps.size_put (hD.tidy thKeyed),ur,putN_length,hs]
 refine⟨w',fC,⟨_,?_,hsz,dZ hn,λ p hp=>?_,λ p hp l' mE=>?_,λ l' mE=>?_⟩,zw⟩
 ·rw[<-hsz];exact ownsMap_tight aI
 ·rcases putN_mem hp with rfl | ⟨hp,_⟩
  ·exact ht
  ·exact bX p hp
 ·rcases putN_mem hp with rfl | ⟨hp,bG⟩
  ·have e:l'=l:=Option.some.inj (mE.symm.trans hl);subst e;exact⟨Maps.has_put_same hD.isMap du _,λ z=>Maps.atKey_put_same hD.isMap du _ _⟩
  ·have yV:l'≠l:=λ e=>bG (thKey_inj (bX p hp) ht (e ▸ mE) hl)
   obtain⟨h1,h2⟩:=bh p hp l' mE;exact⟨(Maps.has_put_other yV _).trans h1,λ z=>(Maps.atKey_put_other yV _ _).trans (h2 z)⟩
 ·by_cases e:l'=l
  ·subst e;exact⟨_,eA L t n,hl⟩
  ·rw[Maps.has_put_other e] at mE;obtain⟨p,hp,dP⟩:=fj l' mE;exact⟨p,mem_putN_other hp (λ e'=>e (Option.some.inj ((e' ▸ dP).symm.trans hl))),dP⟩
theorem aM.len {w:W8}{b:Nat}{L:List (Th × Nat)}(h:aM w b L){T:TypeId}(hT:Tryz.prog.underlying T=some (.map 88 3))(ty:TypeId):(Builtin.len_ #[T] ty #[.map (some b)]).run Tryz.prog w=.ok (.int .i64 (L.length:Nat)) w:=by
 obtain⟨D,hD,hs,_⟩:=h;rw[hD.len hT ty,hs]
def cx (w:W8)(b r:Nat)(L:List (Th × Nat))(Lf:Th->Prop)(dF:Nat):Prop:=
 ∃ (D:DataW Value) (left:Lit->Bool),w.ranges Tryz.prog 88 bD b r L.length D left dF/\Maps.size D=L.length/\(L.map (·.1)).Nodup/\(∀ p∈L,ThOk p.1) /\
  (∀ p∈L,∀ l,keyOf Tryz.prog 88 (thV p.1)=some l->Maps.has D l=true/\∀ z,D.atKey l z=.held (.int .i64 p.2)) /\
  (∀ l,Maps.has D l=true->∃ p∈L,keyOf Tryz.prog 88 (thV p.1)=some l) /\
  (∀ p∈L,∀ l,keyOf Tryz.prog 88 (thV p.1)=some l->(left l=true↔Lf p.1))
theorem cx.map {w:W8}{b r:Nat}{L:List (Th × Nat)}{Lf:Th->Prop}{dF:Nat}(h:cx w b r L Lf dF):aM w b L:=by
 obtain⟨D,left,h1,h2,h3,h4,h5,h6,_⟩:=h;exact⟨D,h1.owns,h2,h3,h4,h5,h6⟩
theorem cx.lt {w:W8}{b r:Nat}{L:List (Th × Nat)}{Lf:Th->Prop}{dF:Nat}(h:cx w b r L Lf dF):r<w.heap.size:=by
 obtain⟨D,left,h1,_⟩:=h;exact h1.lt
theorem cx.blocks {w w':W8}{b r:Nat}{L:List (Th × Nat)}{Lf:Th->Prop}{dF:Nat}(h:cx w b r L Lf dF)(hb:w'.heap[b]?=w.heap[b]?)(hr:w'.heap[r]?=w.heap[r]?):cx w' b r L Lf dF:=by
 obtain⟨D,left,⟨es,clock,since,seen,c0,h1,F,hs,hD,h2,rest⟩,h3⟩:=h;exact⟨D,left,⟨es,clock,since,seen,c0,hb.trans h1,F,hs,hD,hr.trans h2,rest⟩,h3⟩
theorem cx.iter {w:W8}{b r:Nat}{L:List (Th × Nat)}{Lf:Th->Prop}{dF:Nat}(h:cx w b r L Lf dF):∃ o:Obj,w.heap[r]?=some o/\o.isWalk=true:=by
 obtain⟨D,left,⟨es,clock,since,seen,c0,_,_,_,_,h2,_⟩,_⟩:=h;exact⟨_,h2,rfl⟩
section
variable (w:W8) {ops:Array Oper} {rest:List Oper} {o:Oper} {a:Act} {Q:Exit->Act->W8->Prop}
theorem wp_hrange (hg:o.guard=none)(m:Operand)(t:TypeId)(jQ:o.op=Op.range t m)(ht:Tryz.prog.underlying t=some (.map 88 3))(b:Nat)(L:List (Th × Nat))
  (hm:a.eval m=.map (some b)) (aI:aM w b L)
  (hQ:∀ w',cx w' b w.heap.size L (λ _=>True) L.length->w.grownBy w' none->w'.heap.size=w.heap.size+1->wpList Tryz.prog ops Q rest (a.put o.dst (.pointer (some ⟨w.heap.size,0,none⟩))) w'):
  wpList Tryz.prog ops Q (o::rest) a w:=by
 obtain⟨D,hD,hs,hn,bX,bh,fj⟩:=aI;refine wpList_range_own w hg m t jQ 88 3 thKeyed ht bD b L.length D hm hD λ w' h1 h2 im=>hQ w' ⟨D,_,by rw[<-hs] at h1 ⊢;exact h1,hs,hn,bX,bh,fj,λ p hp l hl=>?_⟩ h2 im
 exact⟨λ _=>trivial,λ _=>(bh p hp l hl).1⟩
theorem wp_hnext (hg:o.guard=none)(it:Operand)(jQ:o.op=Op.next it false)(b r:Nat)(L:List (Th × Nat))(Lf:Th->Prop)(dF:Nat)
  (CF:a.eval it=.pointer (some ⟨r,0,none⟩)) (h:cx w b r L Lf dF)
  (oM:(∀ p∈L,¬ Lf p.1)->wpList Tryz.prog ops Q rest (a.put o.dst (.tuple #[.bool false])) w)
  (oN:∀ (t:Th) (n:Nat) (w':W8) (j0:Nat),(t,n)∈L->Lf t->cx w' b r L (λ x=>Lf x/\x≠t) j0->j0<dF->w.grownBy w' (some r)->w'.heap.size=w.heap.size ->
   (Instr.entry (.pointer (some ⟨r,0,none⟩))).run Tryz.prog w'=.ok (.tuple #[thV t,.int .i64 n]) w'->wpList Tryz.prog ops Q rest (a.put o.dst (.tuple #[.bool true,thV t,.int .i64 n])) w'):
  wpList Tryz.prog ops Q (o::rest) a w:=by
 obtain⟨D,left,h1,hs,hn,bX,bh,fj,kV⟩:=h;refine wpList_next_ranges w hg it jQ 88 thKeyed bD (id:Value->Value) (id:Value->Value) (λ key kl _=>⟨key,rfl⟩) (λ v y _=>⟨v,rfl⟩) b r L.length D left dF CF h1
  (λ _ hl=>oM λ p hp hf=>?_) ?_
 ·obtain⟨l,hk⟩:=thKey (bX p hp);have:=(kV p hp l hk).2 hf;rw[hl] at this;cases this
 intro x c kl y w' j0 hkey aN hv gT jf bP vH hsz oj;have ur:Maps.has D kl=true:=Maps.has_true_of_atKey gT;obtain⟨p,hp,dP⟩:=fj kl ur;have hx:x=thV p.1:=thKeyed.inj hkey dP;have hy:=held_inj (v:=c) (d:=y.1) (ps:=y.2) hv;have hc:c=.int .i64 p.2:=by
  have e1:=gT (.held undef);rw[(bh p hp kl dP).2,hy] at e1;exact (DataW.held.inj e1).symm
 subst hx hc;refine oN p.1 p.2 w' j0 hp ((kV p hp kl dP).1 aN) ⟨D,_,jf,hs,hn,bX,bh,fj,λ q hq l hl=>?_⟩ bP vH hsz oj;rw[Bool.and_eq_true,kV q hq l hl,Bool.not_eq_true'];refine and_congr_right λ _=>⟨λ hs e=>?_,λ bG=>Maps.sameKey_ne λ e=>bG (thKey_inj (bX q hq) (bX p hp) (e ▸ hl) dP)⟩
 rw[e] at hl;have hl:=Option.some.inj (dP.symm.trans hl);rw[<-hl,WideAt.sameKey_self (thKeyed.key dP)] at hs
 cases hs
theorem wp_hlook (hg:o.guard=none)(m x:Operand)(t:TypeId)(jQ:o.op=Op.lookup t m x true)(ht:Tryz.prog.underlying t=some (.map 88 3))(b:Nat)(L:List (Th × Nat))
  (hm:a.eval m=.map (some b)) (aI:aM w b L) (th:Th) (hx:a.eval x=thV th) (nL:ThOk th) (u:Value) (hu:(.int .i64 (((ay L th).getD 0:Nat):Int))=u) (c:Bool) (hc:(ay L th).isSome=c)
  (hQ:wpList Tryz.prog ops Q rest (a.put o.dst (.tuple #[u,.bool c])) w):
  wpList Tryz.prog ops Q (o::rest) a w:=by
 refine wpList_plain hg λ K' hK'=>?_
 unfold Oper.wp;simp[execOp,jQ,hm,hx,aI.look nL ht,Result.andThen];rw[hu,hc];exact hK' _ _ hQ
theorem wp_hput (hg:o.guard=none)(m x v:Operand)(t:TypeId)(jQ:o.op=Op.mapUpdate t m x v)(ht:Tryz.prog.underlying t=some (.map 88 3))(b:Nat)(L:List (Th × Nat))
  (hm:a.eval m=.map (some b)) (aI:aM w b L) (hn:L.length<maxLen) (th:Th) (n:Nat) (hx:a.eval x=thV th) (hv:a.eval v=.int .i64 n) (nL:ThOk th)
  (hQ:∀ w',aM w' b (putN L th n)->w.mapTurned w' b->wpList Tryz.prog ops Q rest (a.put o.dst undef) w'):
  wpList Tryz.prog ops Q (o::rest) a w:=by
 refine wpList_plain hg λ K' hK'=>?_
 obtain⟨w',fC,h1,h2⟩:=aI.put nL n hn ht;unfold Oper.wp;simp[execOp,jQ,hm,hx,hv,fC,Result.andThen];exact hK' _ _ (hQ w' h1 h2)
end
end
end Go.Proofs.YtldkpahaocjdpaaGreat
