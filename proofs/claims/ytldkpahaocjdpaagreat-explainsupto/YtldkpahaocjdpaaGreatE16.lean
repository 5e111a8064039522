/-
  A map with strings for keys, as a plain function from texts to values: what a look-up finds, what a store leaves.
-/
import Derived.Maps.OwnSet
import Derived.Test.YtldkpahaocjdpaaGreatE15
set_option maxHeartbeats 16000000
set_option maxRecDepth 1000000
namespace Go.Proofs.YtldkpahaocjdpaaGreat
section
open Go.RowKit Go.Maps Go.ChangeMaps Go.WideMaps
def jP (v:Value):Option (DataW Value × List MemPlace):=some (.held v,[])
def z2y (s:B8):Lit:=.string s.data.toList
theorem zuc {a b:B8}(h:a≠b):z2y a≠z2y b:=λ e=>h (by
 have:a.data.toList=b.data.toList:=by simpa[z2y] using e
 exact ByteArray.ext (Array.toList_inj.1 this))
open Classical in
noncomputable def z0b (V:B8->Option Value)(k:B8)(v:Value):B8->Option Value:=λ x=>if x=k then some v else V x
theorem zbc (V:B8->Option Value)(k:B8)(v:Value):z0b V k v k=some v:=by simp[z0b]
variable {v:Value} {V:B8->Option Value}
theorem qB {k x:B8}(h:x≠k):z0b V k v x=V x:=by simp[z0b,h]
def dE (P:Program)(K:TypeId)(w:W8)(b n:Nat)(V:B8->Option Value):Prop:=
 ∃ D:DataW Value,w.ownsMap P K jP b n D/\∀ k:B8,Maps.has D (z2y k)=(V k).isSome/\∀ z,D.atKey (z2y k) (.held z)=.held ((V k).getD z)
theorem dE.made (P:Program)(K:TypeId)(w:W8):dE P K (w.alloc (.map #[] 0)) w.heap.size 0 (λ _=>none):=
 ⟨.map [],World.ownsMap_made w P K jP,λ _=>⟨rfl,λ _=>rfl⟩⟩
theorem dE.lt {P:Program}{K:TypeId}{w:W8}{b n:Nat}{V:B8->Option Value}(h:dE P K w b n V):b<w.heap.size:=by
 obtain⟨D,hD,_⟩:=h;exact hD.lt
theorem dE.block {P:Program}{K:TypeId}{w w':W8}{b n:Nat}(h:dE P K w b n V)(hb:w'.heap[b]?=w.heap[b]?):dE P K w' b n V:=by
 obtain⟨D,⟨es,clock,h1,h2⟩,h3⟩:=h;exact⟨D,⟨es,clock,hb.trans h1,h2⟩,h3⟩
theorem dE.alloc {P:Program}{K:TypeId}{w:W8}{b n:Nat}{V:B8->Option Value}(h:dE P K w b n V)(o:Obj):dE P K (w.alloc o) b n V:=by
 obtain⟨D,hD,h3⟩:=h;exact⟨D,hD.alloc o,h3⟩
theorem dE.mono {P:Program}{K:TypeId}{w:W8}{b n m:Nat}{V:B8->Option Value}(h:dE P K w b n V)(hn:n<=m):dE P K w b m V:=by
 obtain⟨D,hD,h3⟩:=h;exact⟨D,hD.mono hn,h3⟩
theorem zf8 {d:DataW Value}{ps:List MemPlace}(h:jP v=some (d,ps)):d=.held v:=by
 simp only[jP,Option.some.injEq,Prod.mk.injEq] at h;exact h.1.symm
section
variable {P:Program} (w:W8) {ops:Array Oper} {rest:List Oper} {o:Oper} {a:Act} {Q:Exit->Act->W8->Prop}
theorem qC (hg:o.guard=none)(m x:Operand)(t:TypeId)(pE:o.op=Op.lookup t m x true)
  (K e:TypeId) (hK:P.underlying K=some .string) (ht:P.underlying t=some (.map K e)) {z:Value} (hz:(zeroValue e).run P w=.ok z w) (b n:Nat) (V:B8->Option Value)
  (hm:a.eval m=.map (some b)) (ay:dE P K w b n V) (key:B8) (hx:a.eval x=.string key) (dF:key.size<=maxLen) (u:Value) (hu:(V key).getD z=u) (c:Bool) (hc:(V key).isSome=c)
  (hQ:wpList P ops Q rest (a.put o.dst (.tuple #[u,.bool c])) w):
  wpList P ops Q (o::rest) a w:=by
 obtain⟨D,hD,h3⟩:=ay;refine wpList_lookup_own_ok w hg m x t pE K e (string_keyed hK) ht jP hz (.held z) [] rfl b n D hm hD (.string key) (z2y key) hx (keyOf_string_mk hK dF) (λ v ps hv=>?_);have h1:=zf8 hv;rw[(h3 key).2 z] at h1;have h2:(V key).getD z=v:=by injection h1
 rw[(h3 key).1,hc,<-h2,hu];exact hQ
theorem zfw (hg:o.guard=none)(m x:Operand)(t:TypeId)(pE:o.op=Op.lookup t m x false)
  (K e:TypeId) (hK:P.underlying K=some .string) (ht:P.underlying t=some (.map K e)) {z:Value} (hz:(zeroValue e).run P w=.ok z w) (b n:Nat) (V:B8->Option Value)
  (hm:a.eval m=.map (some b)) (ay:dE P K w b n V) (key:B8) (hx:a.eval x=.string key) (dF:key.size<=maxLen) (u:Value) (hu:(V key).getD z=u)
  (hQ:wpList P ops Q rest (a.put o.dst u) w):
  wpList P ops Q (o::rest) a w:=by
 refine wpList_plain hg λ K' Ie=>?_
 obtain⟨D,hD,h3⟩:=ay;obtain⟨v,ps,kU,hv⟩:=hD.lookup (string_keyed hK) ht hz (zd:=.held z) (zp:=[]) rfl (keyOf_string_mk hK dF);have h1:=zf8 hv;rw[show DataW.atKey D (Lit.string key.data.toList) (DataW.held z)=DataW.held ((V key).getD z) from (h3 key).2 z] at h1;have h2:(V key).getD z=v:=by injection h1
 rw[<-h2,hu] at kU;unfold Oper.wp;simp[execOp,pE,hm,hx,kU,Result.andThen];exact Ie _ _ hQ
theorem zox (hg:o.guard=none)(m x v:Operand)(t:TypeId)(pE:o.op=Op.mapUpdate t m x v)
  (K e:TypeId) (hK:P.underlying K=some .string) (ht:P.underlying t=some (.map K e)) (b n:Nat) (V:B8->Option Value)
  (hm:a.eval m=.map (some b)) (ay:dE P K w b n V) (hn:n<maxLen) (key:B8) (u:Value) (hx:a.eval x=.string key) (hv:a.eval v=u) (dF:key.size<=maxLen)
  (hQ:∀ w',dE P K w' b (n+1) (z0b V key u)->w.grownBy w' (some b)->wpList P ops Q rest (a.put o.dst undef) w'):
  wpList P ops Q (o::rest) a w:=by
 obtain⟨D,hD,h3⟩:=ay;refine wpList_mapUpdate_own w hg m x v t pE K e (string_keyed hK) ht jP b n D hm hD hn (.string key) u (z2y key) hx hv (keyOf_string_mk hK dF) (.held u) [] rfl (λ w' h1 h2=>hQ w' ⟨_,h1,λ k=>?_⟩ h2)
 by_cases e:k=key
 ·subst e;rw[zbc];exact⟨Maps.has_put_same hD.isMap (by trivial) _,λ z=>Maps.atKey_put_same hD.isMap (by trivial) _ _⟩
 ·rw[qB e];exact⟨(Maps.has_put_other (zuc e) _).trans (h3 k).1,λ z=>(Maps.atKey_put_other (zuc e) _ _).trans ((h3 k).2 z)⟩
end
end
section
open Go.RowKit Go.Maps
theorem ya7 {α:Type}(f:α->V8)(n:Nat)(hn:∀ x,(f x).length=n):∀ (l:List α) (k j:Nat) (hk:k<l.length),j<n->(l.flatMap f)[k*n+j]?=(f l[k])[j]?:=by
 intro l
 induction l with
 | nil=>intro k j hk;simp at hk
 | cons x r ih=>
  intro k j hk hj;have hl:=hn x;rw[List.flatMap_cons]
  cases k with
  | zero=>rw[List.getElem?_append_left (by omega)];simp
  | succ k=>
   rw[List.getElem?_append_right (by rw[hl,Nat.succ_mul];omega)];have e2:(k+1)*n+j-(f x).length=k*n+j:=(by rw[hl,Nat.succ_mul];omega);rw[e2,ih k j (by simpa using hk) hj];simp
variable {v:Value} {e:TypeId} {base n:Nat} {w:W8}
theorem vX {α:Type}{f:α->V8}(hn:∀ x,(f x).length=n){l:List α}(h:w.ownsRow base e n v l.length (l.flatMap f))(k:Nat)(hk:k<l.length):∃ g cap,v=.slice (some ⟨g,0,none⟩) l.length cap/\base<=g/\g<w.heap.size/\l.length<=cap/\cap<=maxLen/\∀ j,j<n->w.cell? ⟨g,k*n+j,none⟩=(f l[k])[j]?:=by
 rcases h.2 with⟨_,h0⟩ | ⟨g,cap,cur,rfl,hb,hg,bO,bQ,ij,ht⟩
 ·omega
 ·have hl:=(Array.getElem?_eq_some_iff.1 hg).1;refine⟨g,cap,rfl,hb,hl,bO,bQ,λ j hj=>?_⟩;have:(k+1)*n<=l.length*n:=Nat.mul_le_mul_right n hk;rw[h.cellAt (k*n+j) (by rw[Nat.succ_mul] at this;omega),ya7 f n hn l k j hk hj]
theorem zul (x:xU × Value):(x.1.cells x.2).length=10:=rfl
variable {w':W8}
theorem zJ {size:Nat}{xs:V8}{m:Nat}(h:w.ownsRow base e size v n xs)(hb:Below m w w')(hm:∀ g,v.ownBlock=some g->g<m):w'.ownsRow base e size v n xs:=zZ h (λ g hg=>hb.block g (hm g hg))
variable {ms:List (xU × Value)} {mv:Value}
theorem ey.below (h:ey w base mv ms)(hb:Below w.heap.size w w'):ey w' base mv ms:=
 ⟨zJ h.row hb (λ g e=>(h.row.lt g e).2),λ x hx=>zJ (h.each x hx) hb (λ g e=>((h.each x hx).lt g e).2)⟩
def yX:P9->B8->Option Nat
 | [],_=>none
 | x::r,k=>if x.1.toList==k.toList then some x.2 else yX r k
theorem zod (nm:B8):∀ (l:P9) (k:Nat),(xR nm l k<0↔yX l nm=none)/\(0<=xR nm l k->yX l nm=some (l.getD (xR nm l k-k).toNat (nm,0)).2)
 | [],k=>by simp[xR,yX]
 | x::r,k=>by
  unfold xR yX
  by_cases h:(x.1.toList==nm.toList)=true
  ·rw[if_pos h,if_pos h];refine⟨by simp,λ _=>?_⟩;simp
  ·rw[if_neg h,if_neg h];obtain⟨h1,h2⟩:=zod nm r (k+1);refine⟨h1,λ h0=>?_⟩;rw[h2 h0];have:=(z2u nm r (k+1) h0).1;have e:(xR nm r (k+1)-(k:Int)).toNat=(xR nm r (k+1)-((k+1:Nat):Int)).toNat+1:=(by omega);rw[e];simp
theorem za6 (ps:P9)(nm:B8)(n:Nat):iJ ps nm n=match yX ps nm with | none=>true | some m=>m==n:=by
 obtain⟨h1,h2⟩:=zod nm ps 0;unfold iJ zM
 by_cases h:xR nm ps 0<0
 ·rw[if_pos h,h1.1 h]
 ·rw[if_neg h,h2 (by omega)];simp only[Int.natCast_zero,Int.sub_zero];rw[Bool.eq_iff_iff];simp;omega
theorem zr1 (ps:P9)(nm:B8)(n:Nat):qW ps nm n=if (yX ps nm).isNone then ps++[(nm,n)] else ps:=by
 obtain⟨h1,h2⟩:=zod nm ps 0;unfold qW zM
 by_cases h:xR nm ps 0<0
 ·rw[if_pos h,h1.1 h];rfl
 ·rw[if_neg h,h2 (by omega)];rfl
theorem zkl (ps:P9)(nm:B8)(n:Nat)(k:B8):yX (ps++[(nm,n)]) k=match yX ps k with | some m=>some m | none=>if nm.toList==k.toList then some n else none:=by
 induction ps with
 | nil=>rfl
 | cons x r ih=>
  rw[List.cons_append,yX,yX]
  split
  ·rfl
  ·exact ih
theorem xO {a b:B8}:(a.toList==b.toList)=true↔a=b:=by
 rw[beq_iff_eq,ByteArray.toList_eq,ByteArray.toList_eq];exact⟨λ h=>ByteArray.ext (Array.toList_inj.1 h),λ h=>by rw[h]⟩
def arV (ps:P9):B8->Option Value:=λ k=>(yX ps k).map λ n=>.int .i64 n
theorem z05 (ps:P9)(nm:B8)(n:Nat)(h:iJ ps nm n=true):z0b (arV ps) nm (.int .i64 n)=arV (qW ps nm n):=by
 funext k
 rw[za6] at h;rw[zr1]
 by_cases e:k=nm
 ·subst e;rw[zbc];unfold arV
  cases hn:yX ps k with
  | none=>
   rw[if_pos (by rfl),zkl,hn];simp
  | some m=>
   rw[hn] at h;simp at h;rw[if_neg (by simp),hn,h];rfl
 ·rw[qB e];unfold arV
  cases hn:yX ps nm with
  | none=>
   rw[if_pos (by rfl),zkl];have:¬ (nm.toList==k.toList)=true:=λ h=>e ((xO.1 h).symm)
   cases yX ps k with
   | none=>simp only[if_neg this]
   | some m=>rfl
  | some m=>rw[if_neg (by simp)]
def zcw:List xU->P9->Int
 | [],_=>-1
 | M::r,ps=>if iJ ps M.pd M.ts.length then zcw r (qW ps M.pd M.ts.length) else M.place
variable {k:Nat}
theorem zus (h:k<ms.length)(ps:P9):zcw ((ms.map (·.1)).drop k) ps=if iJ ps ms[k].1.pd ms[k].1.ts.length then zcw ((ms.map (·.1)).drop (k+1)) (qW ps ms[k].1.pd ms[k].1.ts.length) else ms[k].1.place:=by
 rw[List.drop_eq_getElem_cons (by simpa using h),zcw];simp
def zi4 (x:Int):Ending:=.returned (.tuple #[.int .i64 (if 0<=x then x else 0),.bool (decide (0<=x))])
structure ET (w:W8)(base:Nat)(mv:Value)(ms:List (xU × Value))(V:B8->Option Value)(k:Nat)(wr:W8):Prop where
 eK:ey wr base mv ms
 map:dE Tryz.prog 9 wr (w.heap.size+1) k V
 below:Below w.heap.size w wr
theorem ET.alloc {w:W8}{base:Nat}{mv:Value}{ms:List (xU × Value)}{V:B8->Option Value}{k:Nat}{wr:W8}(h:ET w base mv ms V k wr)(o:Obj):ET w base mv ms V k (wr.alloc o):=
 ⟨h.eK.below (B9.alloc L9 _),h.map.alloc o,h.below.alloc h.below.size _⟩
theorem ET.put {V V':B8->Option Value}{k':Nat}{wr w1:W8}(h:ET w base mv ms V k wr)(hm:dE Tryz.prog 9 w1 (w.heap.size+1) k' V')(hg:wr.grownBy w1 (some (w.heap.size+1)))(Ni:∀ g,mv.ownBlock=some g->g<w.heap.size)(Yr:∀ x∈ms,∀ g,x.2.ownBlock=some g->g<w.heap.size):ET w base mv ms V' k' w1:=by
 have hs:=h.below.size;have hb:∀ g,g<w.heap.size->w1.heap[g]?=wr.heap[g]?:=λ g nE=>hg.block g (by omega) (by simp;omega)
 refine⟨⟨zZ h.eK.row (λ g e=>hb g (Ni g e)),λ x hx=>zZ (h.eK.each x hx) (λ g e=>hb g (Yr x hx g e))⟩,hm,h.below.trans ⟨hg.os,hg.tape,hg.output,hg.size,hb⟩⟩
theorem zy1 (w:W8)(base:Nat)(ar:O8)(nr cr:Nat)(am:O8)(cm:Nat)(ms:List (xU × Value))(h:ey w base (.slice am ms.length cm) ms)(hl:ms.length<=1000)(jk:∀ x∈ms,x.1.pd.size<=800):
  Calls Tryz.prog 75 #[.agg #[.slice ar nr cr,.slice am ms.length cm]] w λ e w'=>e=zi4 (zcw (ms.map (·.1)) [])/\Below w.heap.size w w':=by
 have nx:=@run_makeMap Tryz.prog;have lf:=zC (λ g (e:(Value.slice am ms.length cm).ownBlock=some g)=>(h.row.lt g e).2);have Sl:=zC (λ x (hx:x∈ms) g (e:x.2.ownBlock=some g)=>((h.each x hx).lt g e).2);have h0:ET w base (.slice am ms.length cm) ms (arV []) 0 ((w.alloc (.cells #[.slice ar nr cr,.slice am ms.length cm] 100)).alloc (.map #[] 0)):=by
  have b1:=((Below.refl w.heap.size w).alloc L9 (.cells #[.slice ar nr cr,.slice am ms.length cm] 100)).alloc (by simp) (.map #[] 0);refine⟨h.below b1,?_,b1⟩;have:=dE.made Tryz.prog 9 (w.alloc (.cells #[.slice ar nr cr,.slice am ms.length cm] 100));rw[World.size_alloc] at this;exact this
 clear h;go_enter Tryz.func75,Tryz.ntmps75;go_wp2_with fail
 go_loopg [13] ms.length (λ gg i wr=>∃ (k:Nat) (ps:P9),k<=ms.length/\gg=ms.length-k/\i=.int .i64 k/\ET w base (.slice am ms.length cm) ms (arV ps) k wr/\zcw (ms.map (·.1)) []=zcw ((ms.map (·.1)).drop k) ps)
 exact⟨0,[],Nat.zero_le _,rfl,rfl,h0,rfl⟩
 case round=>
  clear h0;obtain⟨k,ps,hk,eD,rfl,hinv,aE⟩:=hrel;have HF:=zC aE;clear aE
  by_cases aF:k<ms.length
  ·have aC:=zC ((zA HF).trans (zus aF ps));obtain⟨g,cap,hv,iF,aZ,bO,bQ,hc⟩:=vX zul hinv.eK.row k aF;injection hv with h1 h2 h3
   subst h1 h3;obtain⟨br,dL,fo⟩:=zD (hinv.eK.each _ (List.getElem_mem aF));have lN:=yU (hinv.eK.each _ (List.getElem_mem aF));unfold maxLen at lN;have q0:=hc 0 (by omega);have q1:=hc 1 (by omega);have q2:=hc 2 (by omega);have q3:=hc 3 (by omega);have q4:=hc 4 (by omega);have q5:=hc 5 (by omega);have q6:=hc 6 (by omega);have q7:=hc 7 (by omega);have q8:=hc 8 (by omega);have q9:=hc 9 (by omega);simp only[xU.cells,fo,Nat.add_zero,List.getElem?_cons_zero,List.getElem?_cons_succ] at q0 q1 q2 q3 q4 q5 q6 q7 q8 q9;have ft:=jk _ (List.getElem_mem aF);have dF:ms[k].1.pd.size<=maxLen:=(by unfold maxLen;omega);have hI:=hinv.alloc (.cells #[.int .i64 ms[k].1.num,.bool ms[k].1.neg,.string ms[k].1.pd,.slice br ms[k].1.ts.length dL,.int .i64 ms[k].1.start,.int .i64 ms[k].1.place,.int .i64 (ms[k].1.pl 0),.int .i64 (ms[k].1.pl 1),.int .i64 (ms[k].1.pl 2),.int .i64 (ms[k].1.pl 3)] 221);have dI:=hI.map;have HI:=zC hI;clear hc HF hinv hI fo
   cases hn:yX ps ms[k].1.pd with
   | none=>
    have hb:iJ ps ms[k].1.pd ms[k].1.ts.length=true:=(by rw[za6,hn]);have aO:=zC ((zA aC).trans (if_pos hb));have HP:=zC (z05 ps _ _ hb);have hu:(arV ps ms[k].1.pd).getD (.int .i64 0)=.int .i64 0:=(by simp[arV,hn]);have hc:(arV ps ms[k].1.pd).isSome=false:=(by simp[arV,hn]);clear aC hb hn;go_wp2_with (first | (at_lookup;refine qC _ rfl _ _ 218 rfl 9 3 Tryz.underlying9 Tryz.underlying218 (Tryz.zeroValue3 _) (w.heap.size+1) k (arV ps) rfl dI ms[k].1.pd rfl dF _ hu _ hc ?_) | (at_mapUpdate;refine zox _ rfl _ _ _ 218 rfl 9 3 Tryz.underlying9 Tryz.underlying218 (w.heap.size+1) k (arV ps) rfl dI (by unfold maxLen;omega) ms[k].1.pd (.int .i64 ms[k].1.ts.length) (by rfl) (by rfl) dF ?_));intro w2 dD fL;have dG:=(zA HI).put dD fL (zA lf) (zA Sl);rw[zA HP] at dG;have eA:=zC dG;clear HI dD fL dG dI;go_wp2_with fail;go_roundg (ms.length-(k+1));exact⟨k+1,_,by omega,rfl,by go_num,zA eA,zA aO⟩;omega
   | some m=>
    have hu:(arV ps ms[k].1.pd).getD (.int .i64 0)=.int .i64 m:=(by simp[arV,hn]);have hc:(arV ps ms[k].1.pd).isSome=true:=by simp[arV,hn]
    by_cases pD:m=ms[k].1.ts.length
    ·have hb:iJ ps ms[k].1.pd ms[k].1.ts.length=true:=(by rw[za6,hn];simp[pD]);have aO:=zC ((zA aC).trans (if_pos hb));have HP:=zC (z05 ps _ _ hb);have bF:((m:Int) != (ms[k].1.ts.length:Int))=false:=(by simp[pD]);clear aC hb hn pD;go_wp2_with (first | (at_lookup;refine qC _ rfl _ _ 218 rfl 9 3 Tryz.underlying9 Tryz.underlying218 (Tryz.zeroValue3 _) (w.heap.size+1) k (arV ps) rfl dI ms[k].1.pd rfl dF _ hu _ hc ?_) | (at_mapUpdate;refine zox _ rfl _ _ _ 218 rfl 9 3 Tryz.underlying9 Tryz.underlying218 (w.heap.size+1) k (arV ps) rfl dI (by unfold maxLen;omega) ms[k].1.pd (.int .i64 ms[k].1.ts.length) (by rfl) (by rfl) dF ?_));intro w2 dD fL;have dG:=(zA HI).put dD fL (zA lf) (zA Sl);rw[zA HP] at dG;have eA:=zC dG;clear HI dD fL dG dI;go_wp2_with fail;go_roundg (ms.length-(k+1));exact⟨k+1,_,by omega,rfl,by go_num,zA eA,zA aO⟩;omega
    ·have hb:iJ ps ms[k].1.pd ms[k].1.ts.length=false:=(by rw[za6,hn];simp[pD]);have aO:=zC ((zA aC).trans (if_neg (by rw[hb];decide)));have bF:((m:Int) != (ms[k].1.ts.length:Int))=true:=(by simp;omega);clear aC hb hn pD;go_wp2_with (at_lookup;refine qC _ rfl _ _ 218 rfl 9 3 Tryz.underlying9 Tryz.underlying218 (Tryz.zeroValue3 _) (w.heap.size+1) k (arV ps) rfl dI ms[k].1.pd rfl dF _ hu _ hc ?_);go_wp2_with fail
     go_ret2
     refine⟨?_,(zA HI).below⟩;rw[zA aO];unfold zi4;rw[if_pos (by omega)];have:decide (0<=(ms[k].1.place:Int))=true:=by simp
     rw[this];rfl
  ·have aC:=zC (show zcw (ms.map (·.1)) []=-1 by rw[zA HF,List.drop_of_length_le (by simp;omega)];rfl);have HI:=zC hinv;clear HF hinv;go_wp2_with fail
   go_ret2
   exact⟨by rw[zA aC];rfl,(zA HI).below⟩
end
section
open Go.RowKit
theorem zei (W:W8)(v:Value):(Instr.typeAssert (.iface 130 v) 191 130 true).run Tryz.prog W=.ok (.tuple #[v,.bool true]) W:=by kernel_rfl
theorem zjj (W:W8)(v:Value):(Instr.typeAssert (.iface 193 v) 191 130 true).run Tryz.prog W=.ok (.tuple #[.string { data:=#[] },.bool false]) W:=by kernel_rfl
theorem zdl (W:W8)(v:Value):(Instr.typeAssert (.iface 193 v) 191 193 true).run Tryz.prog W=.ok (.tuple #[v,.bool true]) W:=by kernel_rfl
def znc (v:B8)(ts:List (Bool × B8)):Bool:=ts.any λ t=>t.1&&t.2.toList==v.toList
theorem zmd {w:W8}{base:Nat}{tv:Value}{ts:List (Bool × B8)}(h:w.ownsRow base 191 1 tv ts.length (xH ts))(k:Nat)(hk:k<ts.length):∃ g cap,tv=.slice (some ⟨g,0,none⟩) ts.length cap/\base<=g/\g<w.heap.size/\ts.length<=cap/\cap<=maxLen/\w.cell? ⟨g,k,none⟩=some (zec ts[k].1 ts[k].2):=by
 rcases h.2 with⟨_,h0⟩ | ⟨g,cap,cur,rfl,hb,hg,bO,bQ,ij,ht⟩
 ·omega
 ·refine⟨g,cap,rfl,hb,(Array.getElem?_eq_some_iff.1 hg).1,bO,bQ,?_⟩;rw[h.cellAt k (by omega),xH,List.getElem?_map,List.getElem?_eq_getElem hk];rfl
theorem z2l (w:W8)(base:Nat)(pd v:B8)(a:O8)(c:Nat)(ts:List (Bool × B8))(h:w.ownsRow base 191 1 (.slice a ts.length c) ts.length (xH ts)):
  Calls Tryz.prog 221 #[.agg #[.string pd,.slice a ts.length c],.string v] w λ e w'=>e=.returned (.bool (znc v ts))/\Below w.heap.size w w':=by
 have lN:=yU h;unfold maxLen at lN;have PD:Below w.heap.size w (w.alloc (.cells #[.string pd,.slice a ts.length c] 79)):=B9.alloc L9 _;have h0:=zJ h PD (λ g e=>(h.lt g e).2);clear h;have TC:=zei;have Kh:=zjj;have Dg:=zdl;go_enter Tryz.func221,Tryz.ntmps221;go_wp2_with fail
 go_loop [12] (λ i=>∃ k:Nat,k<=ts.length/\i=.int .i64 k/\znc v ts=znc v (ts.drop k)) (λ i=>ts.length-(intOf i).toNat)
 exact⟨0,Nat.zero_le _,rfl,rfl⟩
 case round=>
  obtain⟨k,hk,rfl,aE⟩:=hrel;have HF:=zC aE;clear aE
  by_cases aF:k<ts.length
  ·obtain⟨g,cap,hv,iF,aZ,bO,bQ,hc⟩:=zmd h0 k aF;injection hv with h1 h2 h3
   subst h1 h3;have aP:znc v (ts.drop k)=((ts[k].1&&ts[k].2.toList==v.toList)||znc v (ts.drop (k+1))):=zkb aF;have aC:=zC ((zA HF).trans aP);clear HF aP
   cases hb:ts[k].1 with
   | true=>
    rw[hb] at hc;unfold zec at hc;rw[if_pos rfl] at hc
    cases hq:ts[k].2.toList==v.toList with
    | true=>
     have aO:=zC (show znc v ts=true by rw[zA aC,hb,hq];rfl);clear aC hb;go_wp2_with fail;go_ret;exact⟨by rw[zA aO];rfl,PD⟩
    | false=>
     have aO:=zC (show znc v ts=znc v (ts.drop (k+1)) by rw[zA aC,hb,hq];rfl);clear aC hb;go_wp2_with fail
     go_round
     case rel=>exact⟨k+1,by omega,by go_num,zA aO⟩
     case measure=>simp[intOf];omega
   | false=>
    rw[hb] at hc;unfold zec at hc;rw[if_neg (by decide)] at hc;have aO:=zC (show znc v ts=znc v (ts.drop (k+1)) by rw[zA aC,hb];rfl);clear aC hb;go_wp2_with fail
    go_round
    case rel=>exact⟨k+1,by omega,by go_num,zA aO⟩
    case measure=>simp[intOf];omega
  ·have aC:=zC (show znc v ts=false by rw[zA HF,List.drop_of_length_le (by omega)];rfl);clear HF;go_wp2_with fail;go_ret;exact⟨by rw[zA aC];rfl,PD⟩
end
section
open Go.RowKit
def vQ (x:vK × Value):V8:=[.string x.1.pd,x.2]
theorem yc9 (x:vK × Value):(vQ x).length=2:=rfl
theorem zwx (x:vK × Value):(x.1.cells x.2).length=3:=rfl
def vA (b:Bool)(x:vK × Value):Bool:=x.1.neg==b
variable {ls:List (vK × Value)} {bv:Value} {base:Nat} {w:W8}
theorem iL.below {w':W8}(h:iL w base bv ls)(hb:Below w.heap.size w w'):iL w' base bv ls:=
 ⟨zJ h.row hb (λ g e=>(h.row.lt g e).2),λ x hx=>zJ (h.each x hx) hb (λ g e=>((h.each x hx).lt g e).2)⟩
theorem z2p:(Tryz.prog.info? 79).map (λ i=>(i.zero,i.size,i.bytes))=some (some (.agg #[.string { data:=#[] },.slice none 0 0]),2,40):=by kernel_rfl
theorem z7x (w1:W8)(o:Obj)(x:vK × Value)(j:Nat)(u:Value)(h:(vQ x)[j]?=some u):((w1.alloc o).alloc (Obj.cells #[.string x.1.pd,x.2] 79)).cell? ((⟨w1.heap.size+1,0,none⟩:Addr).add j)=some u:=by
 have e:(⟨w1.heap.size+1,0,none⟩:Addr).add j=⟨w1.heap.size+1,j,none⟩:=by unfold Addr.add;split <;> simp_all
 rw[e,World.cell?_alloc_at _ _ _ _ (by simp)];simpa[vQ] using h
theorem yby (L:vK)(a:O8)(n c:Nat):∀ u∈vQ (L,.slice a n c),u.oneCell'=true:=by
 intro u hu;simp[vQ] at hu;rcases hu with rfl | rfl <;> rfl
structure ES (w:W8)(base:Nat)(bv:Value)(ls l:List (vK × Value))(v:Value)(wr:W8):Prop where
 lits:iL wr base bv ls
 row:wr.ownsRow (w.heap.size+1) 79 2 v l.length (l.flatMap vQ)
 below:Below w.heap.size w wr
 sz:w.heap.size<wr.heap.size
theorem ES.alloc {w:W8}{base:Nat}{bv:Value}{ls l:List (vK × Value)}{v:Value}{wr:W8}(h:ES w base bv ls l v wr)(o:Obj):ES w base bv ls l v (wr.alloc o):=
 have hs:=h.sz
 ⟨h.lits.below (B9.alloc L9 _),h.row.alloc o,h.below.alloc (by omega) _,by simp;omega⟩
theorem ES.append {l:List (vK × Value)}{v v':Value}{wr w5:W8}(h:ES w base bv ls l v wr)(Dc:∀ x∈ls,∀ g,x.2.ownBlock=some g->g<w.heap.size)(eo:∀ g,bv.ownBlock=some g->g<w.heap.size){x:vK × Value}(ay:w5.ownsRow (w.heap.size+1) 79 2 v' (l.length+1) (l.flatMap vQ++vQ x))(hg:wr.grownBy w5 v.ownBlock):ES w base bv ls (l++[x]) v' w5:=by
 have hs:=h.sz;have hb:∀ g,g<w.heap.size->w5.heap[g]?=wr.heap[g]?:=λ g nE=>hg.block g (by omega) (λ e=>by have:=(h.row.lt g e.symm).1;omega)
 refine⟨⟨zZ h.lits.row (λ g e=>hb g (eo g e)),λ y hy=>zZ (h.lits.each y hy) (λ g e=>hb g (Dc y hy g e))⟩,?_,h.below.trans ⟨hg.os,hg.tape,hg.output,hg.size,hb⟩,by have:=hg.size;omega⟩;simpa using ay
theorem zhp {α:Type}{f:α->Bool}{l:List α}{k:Nat}(h:k<l.length):(l.take (k+1)).filter f=(l.take k).filter f++(if f l[k] then [l[k]] else []):=by
 rw[List.take_succ_eq_append_getElem h,List.filter_append]
 congr 1
 cases hf:f l[k] <;> simp[hf]
theorem zq5 (w:W8)(base:Nat)(pd:B8)(ah:O8)(nh ch:Nat)(ab:O8)(cb:Nat)(ls:List (vK × Value))(neg:Bool)(h:iL w base (.slice ab ls.length cb) ls)(hl:ls.length<=1000):
  Calls Tryz.prog 217 #[.agg #[.string pd,.slice ah nh ch,.slice ab ls.length cb],.bool neg] w λ e w'=>∃ (a:O8) (c:Nat),e=.returned (.slice a (ls.filter (vA neg)).length c)/\w'.ownsRow (w.heap.size+1) 79 2 (.slice a (ls.filter (vA neg)).length c) (ls.filter (vA neg)).length ((ls.filter (vA neg)).flatMap vQ)/\Below w.heap.size w w'/\w.heap.size<w'.heap.size:=by
 obtain⟨i0,hi,bL,aY,bg⟩:=info_parts z2p;have uK:=zC (λ g (e:(Value.slice ab ls.length cb).ownBlock=some g)=>(h.row.lt g e).2);have sy:=zC (λ x (hx:x∈ls) g (e:x.2.ownBlock=some g)=>((h.each x hx).lt g e).2);have b1:=(Below.refl w.heap.size w).alloc L9 (.cells #[.string pd,.slice ah nh ch,.slice ab ls.length cb] 123);have h0:ES w base (.slice ab ls.length cb) ls [] (.slice none 0 0) (w.alloc (.cells #[.string pd,.slice ah nh ch,.slice ab ls.length cb] 123)):=⟨h.below b1,World.ownsRow_nil _ _ _ _,b1,by simp⟩;clear h b1;go_enter Tryz.func217,Tryz.ntmps217;go_wp2_with fail
 go_loopg [5,11] ls.length (λ gg v i wr=>∃ k:Nat,k<=ls.length/\gg=ls.length-k/\i=.int .i64 k/\ES w base (.slice ab ls.length cb) ls ((ls.take k).filter (vA neg)) v wr)
 exact⟨0,Nat.zero_le _,rfl,rfl,h0⟩
 case round=>
  clear h0;obtain⟨k,hk,eD,rfl,hinv⟩:=hrel;obtain⟨a1,ei,rfl⟩:=zD hinv.row
  by_cases aF:k<ls.length
  ·obtain⟨g,cap,hv,iF,aZ,bO,bQ,hc⟩:=vX zwx hinv.lits.row k aF;injection hv with h1 h2 h3
   subst h1 h3;obtain⟨br,dL,fo⟩:=zD (hinv.lits.each _ (List.getElem_mem aF));have q0:=hc 0 (by omega);have q1:=hc 1 (by omega);have q2:=hc 2 (by omega);simp only[vK.cells,fo,Nat.add_zero,List.getElem?_cons_zero,List.getElem?_cons_succ] at q0 q1 q2;have hI:=hinv.alloc (.cells #[.bool ls[k].1.neg,.string ls[k].1.pd,.slice br ls[k].1.ts.length dL] 183);have ko:((ls.take k).filter (vA neg)).length<=1000:=Nat.le_trans (List.length_filter_le _ _) (by simp;omega);have bj:=hI.sz;rw[World.size_alloc] at bj;clear hc
   cases hq:(ls[k].1.neg==neg) with
   | true=>
    have hf:vA neg ls[k]=true:=hq;have HT:=zC (zhp (f:=vA neg) aF);have hx:ls[k]=(ls[k].1,.slice br ls[k].1.ts.length dL):=(by rw[<-fo]);have HX:=zC hx;have VP:=zC hf;have bH:=(hI.alloc (.cells #[.string ls[k].1.pd,.slice br ls[k].1.ts.length dL] 79)).row;have HI:=zC (hI.alloc (.cells #[.string ls[k].1.pd,.slice br ls[k].1.ts.length dL] 79));clear hinv hI fo hf hx;go_wp2_with (at_builtin;refine wpList_append_own _ rfl _ _ 289 rfl (w.heap.size+1) 79 i0 _ 2 40 Tryz.underlying289 hi bL aY bg rfl (by decide) _ _ _ rfl bH ⟨wr.heap.size+1,0,none⟩ 1 1 (vQ (ls[k].1,.slice br ls[k].1.ts.length dL)) rfl rfl (z7x wr _ (ls[k].1,.slice br ls[k].1.ts.length dL)) (yby _ _ _ _) (by unfold maxLen;omega) (by omega) (by simp;omega) ?_);intro v5 w5 aq aU hne5;clear hne5;obtain⟨a5,eH,rfl⟩:=zD aq;have J4:=(zA HI).append (zA sy) (zA uK) aq aU;have ym:=zC J4;clear aq aU bH J4 HI;go_wp2_with fail;go_roundg (ls.length-(k+1))
    case measure=>omega
    case rel=>
     refine⟨k+1,by omega,rfl,by go_num,?_⟩;rw[zA HT,if_pos (zA VP),zA HX];exact zA ym
   | false=>
    have hf:vA neg ls[k]=false:=hq;have HT:=zC (show (ls.take (k+1)).filter (vA neg)=(ls.take k).filter (vA neg) by rw[zhp aF,hf];simp);have HI:=zC hI;clear hinv hI hf fo;go_wp2_with fail;go_roundg (ls.length-(k+1));exact⟨k+1,by omega,rfl,by go_num,by rw[zA HT];exact zA HI⟩;omega
  ·have e:(ls.take k).filter (vA neg)=ls.filter (vA neg):=(by rw[List.take_of_length_le (by omega)]);rw[e] at hinv ⊢;have HI:=zC hinv;clear hinv;go_wp2_with fail;go_ret;exact⟨_,_,rfl,(zA HI).row,(zA HI).below,(zA HI).sz⟩
theorem zfo (w:W8)(base:Nat)(pd:B8)(ah:O8)(nh ch:Nat)(ab:O8)(cb:Nat)(ls:List (vK × Value))(h:iL w base (.slice ab ls.length cb) ls)(hl:ls.length<=1000):
  Calls Tryz.prog 164 #[.agg #[.string pd,.slice ah nh ch,.slice ab ls.length cb]] w λ e w'=>∃ (a:O8) (c:Nat),e=.returned (.slice a (ls.filter (vA false)).length c)/\w'.ownsRow (w.heap.size+1) 79 2 (.slice a (ls.filter (vA false)).length c) (ls.filter (vA false)).length ((ls.filter (vA false)).flatMap vQ)/\Below w.heap.size w w'/\w.heap.size<w'.heap.size:=by
 have b1:=(Below.refl w.heap.size w).alloc L9 (.cells #[.string pd,.slice ah nh ch,.slice ab ls.length cb] 123);have h0:=h.below b1;clear h;go_enter Tryz.func164,Tryz.ntmps164;go_wp2_with fail;refine (zq5 _ base pd ah nh ch ab cb ls false h0 hl).mono ?_;rintro e w1 ⟨a,c,rfl,hr,hb,hz⟩;go_wp2_with fail;go_ret;refine⟨a,c,rfl,zG hr (by simp),b1.trans (hb.mono (by simp)),by simp at hz;omega⟩
def zjk (v:B8)(ls:List vK):Bool:=(ls.filter λ l=>l.neg==false).any λ l=>znc v l.ts
theorem z1g (w:W8)(base:Nat)(pd v:B8)(ah:O8)(nh ch:Nat)(ab:O8)(cb:Nat)(ls:List (vK × Value))(h:iL w base (.slice ab ls.length cb) ls)(hl:ls.length<=1000):
  Calls Tryz.prog 176 #[.agg #[.string pd,.slice ah nh ch,.slice ab ls.length cb],.string v] w λ e w'=>e=.returned (.bool (zjk v (ls.map (·.1))))/\Below w.heap.size w w':=by
 have b1:=(Below.refl w.heap.size w).alloc L9 (.cells #[.string pd,.slice ah nh ch,.slice ab ls.length cb] 123);have h0:=h.below b1;have ko:(ls.filter (vA false)).length<=1000:=Nat.le_trans (List.length_filter_le _ _) hl;have Pu:∀ x∈ls.filter (vA false),w.ownsRow base 191 1 x.2 x.1.ts.length (xH x.1.ts):=λ x hx=>h.each x (List.mem_filter.1 hx).1
 have heq:zjk v (ls.map (·.1))=(ls.filter (vA false)).any λ x=>znc v x.1.ts:=by
  unfold zjk;rw[List.filter_map,List.any_map];rfl
 rw[heq];have hP:=zfo _ base pd ah nh ch ab cb ls h0 hl;obtain⟨l,hZ⟩:∃ l,ls.filter (vA false)=l:=⟨_,rfl⟩;rw[hZ] at ko Pu hP ⊢;have sy:=zC Pu;clear h heq Pu hZ;go_enter Tryz.func176,Tryz.ntmps176;go_wp2_with fail;refine hP.mono ?_;rintro e w1 ⟨a,c,rfl,hr,hb,hz⟩;have aL:Below w.heap.size w w1:=b1.trans (hb.mono (by simp));rw[World.size_alloc] at hr hz;clear h0 hb b1 hP;go_wp2_with fail
 go_loopg [10] l.length (λ gg i wr=>∃ k:Nat,k<=l.length/\gg=l.length-k/\i=.int .i64 k/\wr.ownsRow (w.heap.size+1+1) 79 2 (.slice a l.length c) l.length (l.flatMap vQ)/\Below w.heap.size w wr/\w.heap.size<wr.heap.size/\(l.any λ x=>znc v x.1.ts)=(l.drop k).any λ x=>znc v x.1.ts)
 exact⟨0,Nat.zero_le _,rfl,rfl,hr,aL,by omega,rfl⟩
 case round=>
  clear hr aL hz;obtain⟨k,hk,eD,rfl,hr,hb,bj,aE⟩:=hrel;have HF:=zC aE;clear aE
  by_cases aF:k<l.length
  ·obtain⟨g,cap,hv,iF,aZ,bO,bQ,hc⟩:=vX yc9 hr k aF;injection hv with h1 h2 h3
   subst h1 h3;have ay:=zA sy _ (List.getElem_mem aF);obtain⟨br,dL,fo⟩:=zD ay;have q0:=hc 0 (by omega);have q1:=hc 1 (by omega);simp only[vQ,fo,Nat.add_zero,List.getElem?_cons_zero,List.getElem?_cons_succ] at q0 q1;rw[fo] at ay;have bA:=(Below.refl wr.heap.size wr).alloc L9 (.cells #[.string l[k].1.pd,.slice br l[k].1.ts.length dL] 79);have bH:=zJ ay (hb.trans (bA.mono (by omega))) (λ x e=>(ay.lt x e).2);have aC:=zC ((zA HF).trans (zkb aF));have HR:=zC hr;clear hc HF ay fo hr;go_wp2_with fail;refine (z2l _ base l[k].1.pd v br dL l[k].1.ts bH).mono ?_;rintro e w2 ⟨rfl,aK⟩;have M4:Below wr.heap.size wr w2:=bA.trans (aK.mono (by simp));have bg:=M4.size
   cases hq:znc v l[k].1.ts with
   | true=>
    have aO:=zC (show (l.any λ x=>znc v x.1.ts)=true by rw[zA aC,hq];rfl);clear aC hq q0 q1 bH aK bA;go_wp2_with fail;go_ret;exact⟨by rw[zA aO];rfl,hb.trans (M4.mono (by omega))⟩
   | false=>
    have aO:=zC (show (l.any λ x=>znc v x.1.ts)=(l.drop (k+1)).any λ x=>znc v x.1.ts by rw[zA aC,hq];rfl);have mG:=zC (zJ (zA HR) M4 (λ x e=>((zA HR).lt x e).2));clear aC hq q0 q1 bH aK bA HR;go_wp2_with fail;go_roundg (l.length-(k+1));exact⟨k+1,by omega,rfl,by go_num,zA mG,hb.trans (M4.mono (by omega)),by omega,zA aO⟩;omega
  ·have aC:=zC (show (l.any λ x=>znc v x.1.ts)=false by rw[zA HF,List.drop_of_length_le (by omega)];rfl);clear HF;go_wp2_with fail;go_ret;exact⟨by rw[zA aC];rfl,hb⟩
end
end Go.Proofs.YtldkpahaocjdpaaGreat
