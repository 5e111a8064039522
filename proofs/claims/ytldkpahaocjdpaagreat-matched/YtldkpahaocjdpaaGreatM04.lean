/-
  A map with strings for keys, as a plain function from texts to values: what a look-up finds, what a store leaves.
-/
import Derived.Test.YtldkpahaocjdpaaGreatM00
import Derived.Maps.OwnSet
import Derived.Maps.RangeWalk
import Derived.DeepKeys4
import Derived.WideKeyArr
import Derived.RangeFuncSeq
import Derived.Test.YtldkpahaocjdpaaGreatProg
set_option maxHeartbeats 16000000
set_option maxRecDepth 1000000
namespace Go.Proofs.YtldkpahaocjdpaaGreat
section
open Go.RowKit Go.Maps Go.ChangeMaps Go.WideMaps
def vW (v:Value):Option (DataW Value × List MemPlace):=some (.held v,[])
def z0q (s:B8):Lit:=.string s.data.toList
theorem zte {a b:B8}(h:a≠b):z0q a≠z0q b:=λ e=>h (by
 have:a.data.toList=b.data.toList:=by simpa[z0q] using e
 exact ByteArray.ext (Array.toList_inj.1 this))
open Classical in
noncomputable def zyt (V:B8->Option Value)(k:B8)(v:Value):B8->Option Value:=λ x=>if x=k then some v else V x
theorem zaa (V:B8->Option Value)(k:B8)(v:Value):zyt V k v k=some v:=by simp[zyt]
theorem jN {V:B8->Option Value}{k x:B8}{v:Value}(h:x≠k):zyt V k v x=V x:=by simp[zyt,h]
def qK (P:Program)(K:TypeId)(w:W8)(b n:Nat)(V:B8->Option Value):Prop:=
 ∃ D:DataW Value,w.ownsMap P K vW b n D/\∀ k:B8,Maps.has D (z0q k)=(V k).isSome/\∀ z,D.atKey (z0q k) (.held z)=.held ((V k).getD z)
theorem qK.made (P:Program)(K:TypeId)(w:W8):qK P K (w.alloc (.map #[] 0)) w.heap.size 0 (λ _=>none):=
 ⟨.map [],World.ownsMap_made w P K vW,λ _=>⟨rfl,λ _=>rfl⟩⟩
theorem qK.lt {P:Program}{K:TypeId}{w:W8}{b n:Nat}{V:B8->Option Value}(h:qK P K w b n V):b<w.heap.size:=by
 obtain⟨D,hD,_⟩:=h;exact hD.lt
theorem qK.block {P:Program}{K:TypeId}{w w':W8}{b n:Nat}{V:B8->Option Value}(h:qK P K w b n V)(hb:w'.heap[b]?=w.heap[b]?):qK P K w' b n V:=by
 obtain⟨D,⟨es,clock,h1,h2⟩,h3⟩:=h;exact⟨D,⟨es,clock,hb.trans h1,h2⟩,h3⟩
theorem qK.alloc {P:Program}{K:TypeId}{w:W8}{b n:Nat}{V:B8->Option Value}(h:qK P K w b n V)(o:Obj):qK P K (w.alloc o) b n V:=by
 obtain⟨D,hD,h3⟩:=h;exact⟨D,hD.alloc o,h3⟩
theorem qK.mono {P:Program}{K:TypeId}{w:W8}{b n m:Nat}{V:B8->Option Value}(h:qK P K w b n V)(hn:n<=m):qK P K w b m V:=by
 obtain⟨D,hD,h3⟩:=h;exact⟨D,hD.mono hn,h3⟩
theorem zdm {v:Value}{d:DataW Value}{ps:List MemPlace}(h:vW v=some (d,ps)):d=.held v:=by
 simp only[vW,Option.some.injEq,Prod.mk.injEq] at h;exact h.1.symm
section
variable {P:Program} (w:W8) {ops:Array Oper} {rest:List Oper} {o:Oper} {a:Act} {Q:Exit->Act->W8->Prop}
theorem vE (hg:o.guard=none)(m x:Operand)(t:TypeId)(bM:o.op=Op.lookup t m x true)
  (K e:TypeId) (hK:P.underlying K=some .string) (ht:P.underlying t=some (.map K e)) {z:Value} (hz:(zeroValue e).run P w=.ok z w) (b n:Nat) (V:B8->Option Value)
  (hm:a.eval m=.map (some b)) (aI:qK P K w b n V) (key:B8) (hx:a.eval x=.string key) (du:key.size<=maxLen) (u:Value) (hu:(V key).getD z=u) (c:Bool) (hc:(V key).isSome=c)
  (hQ:wpList P ops Q rest (a.put o.dst (.tuple #[u,.bool c])) w):
  wpList P ops Q (o::rest) a w:=by
 obtain⟨D,hD,h3⟩:=aI;refine wpList_lookup_own_ok w hg m x t bM K e (string_keyed hK) ht vW hz (.held z) [] rfl b n D hm hD (.string key) (z0q key) hx (keyOf_string_mk hK du) (λ v ps hv=>?_);have h1:=zdm hv;rw[(h3 key).2 z] at h1;have h2:(V key).getD z=v:=by injection h1
 rw[(h3 key).1,hc,<-h2,hu];exact hQ
theorem zck (hg:o.guard=none)(m x:Operand)(t:TypeId)(bM:o.op=Op.lookup t m x false)
  (K e:TypeId) (hK:P.underlying K=some .string) (ht:P.underlying t=some (.map K e)) {z:Value} (hz:(zeroValue e).run P w=.ok z w) (b n:Nat) (V:B8->Option Value)
  (hm:a.eval m=.map (some b)) (aI:qK P K w b n V) (key:B8) (hx:a.eval x=.string key) (du:key.size<=maxLen) (u:Value) (hu:(V key).getD z=u)
  (hQ:wpList P ops Q rest (a.put o.dst u) w):
  wpList P ops Q (o::rest) a w:=by
 refine wpList_plain hg λ K' hK'=>?_
 obtain⟨D,hD,h3⟩:=aI;obtain⟨v,ps,fC,hv⟩:=hD.lookup (string_keyed hK) ht hz (zd:=.held z) (zp:=[]) rfl (keyOf_string_mk hK du);have h1:=zdm hv;rw[show DataW.atKey D (Lit.string key.data.toList) (DataW.held z)=DataW.held ((V key).getD z) from (h3 key).2 z] at h1;have h2:(V key).getD z=v:=by injection h1
 rw[<-h2,hu] at fC;unfold Oper.wp;simp[execOp,bM,hm,hx,fC,Result.andThen];exact hK' _ _ hQ
theorem zof (hg:o.guard=none)(m x v:Operand)(t:TypeId)(bM:o.op=Op.mapUpdate t m x v)
  (K e:TypeId) (hK:P.underlying K=some .string) (ht:P.underlying t=some (.map K e)) (b n:Nat) (V:B8->Option Value)
  (hm:a.eval m=.map (some b)) (aI:qK P K w b n V) (hn:n<maxLen) (key:B8) (u:Value) (hx:a.eval x=.string key) (hv:a.eval v=u) (du:key.size<=maxLen)
  (hQ:∀ w',qK P K w' b (n+1) (zyt V key u)->w.grownBy w' (some b)->wpList P ops Q rest (a.put o.dst undef) w'):
  wpList P ops Q (o::rest) a w:=by
 obtain⟨D,hD,h3⟩:=aI;refine wpList_mapUpdate_own w hg m x v t bM K e (string_keyed hK) ht vW b n D hm hD hn (.string key) u (z0q key) hx hv (keyOf_string_mk hK du) (.held u) [] rfl (λ w' h1 h2=>hQ w' ⟨_,h1,λ k=>?_⟩ h2)
 by_cases e:k=key
 ·subst e;rw[zaa];exact⟨Maps.has_put_same hD.isMap (by trivial) _,λ z=>Maps.atKey_put_same hD.isMap (by trivial) _ _⟩
 ·rw[jN e];exact⟨(Maps.has_put_other (zte e) _).trans (h3 k).1,λ z=>(Maps.atKey_put_other (zte e) _ _).trans ((h3 k).2 z)⟩
end
end
section
open Go.RowKit Go.Maps Go.ChangeMaps Go.WideMaps
def mr (P:Program)(K:TypeId)(w:W8)(b r n:Nat)(V:B8->Option Value)(L:B8->Prop)(dF:Nat):Prop:=
 ∃ (D:DataW Value) (left:Lit->Bool),w.ranges P K vW b r n D left dF/\(∀ k:B8,Maps.has D (z0q k)=(V k).isSome/\∀ z,D.atKey (z0q k) (.held z)=.held ((V k).getD z))/\∀ k,left (z0q k)=true↔L k
theorem mr.alloc {P:Program}{K:TypeId}{w:W8}{b r n:Nat}{V:B8->Option Value}{L:B8->Prop}{dF:Nat}(h:mr P K w b r n V L dF)(o:Obj):mr P K (w.alloc o) b r n V L dF:=by
 obtain⟨D,left,h1,h2⟩:=h;exact⟨D,left,h1.alloc o,h2⟩
theorem z0p {P:Program}{k:TypeId}(hk:P.underlying k=some .string){s:B8}{kl:Lit}(h:keyOf P k (.string s)=some kl):kl=z0q s:=by
 simp[keyOf,hk,mapKey] at h;exact h.2.symm
theorem zo4 {P:Program}{k:TypeId}(hk:P.underlying k=some .string){key:Value}{kl:Lit}(h:keyOf P k key=some kl):∃ s,key=.string s:=by
 cases key <;> simp[keyOf,hk,mapKey] at h
 exact⟨_,rfl⟩
section
variable {P:Program} (w:W8) {ops:Array Oper} {rest:List Oper} {o:Oper} {a:Act} {Q:Exit->Act->W8->Prop}
theorem z7a (hg:o.guard=none)(m:Operand)(t:TypeId)(bM:o.op=Op.range t m)(K e:TypeId)(hK:P.underlying K=some .string)(ht:P.underlying t=some (.map K e))(b n:Nat)(V:B8->Option Value)
  (hm:a.eval m=.map (some b)) (aI:qK P K w b n V)
  (hQ:∀ w' dF,mr P K w' b w.heap.size n V (λ k=>(V k).isSome=true) dF->dF<=n->w.grownBy w' none->w'.heap.size=w.heap.size+1->wpList P ops Q rest (a.put o.dst (.pointer (some ⟨w.heap.size,0,none⟩))) w'):
  wpList P ops Q (o::rest) a w:=by
 obtain⟨D,hD,h3⟩:=aI;refine wpList_range_own w hg m t bM K e (string_keyed hK) ht vW b n D hm hD λ w' h1 h2 hs=>hQ w' (Maps.size D) ⟨D,_,h1,h3,λ k=>by rw[(h3 k).1]⟩ ?_ h2 hs
 obtain⟨es,clock,_,_,hn,rfl⟩:=hD;rw[Maps.size_eq,(WideShapes.sorted_perm _).length_eq];simpa using hn
theorem yan (hg:o.guard=none)(it:Operand)(bM:o.op=Op.next it false)(K:TypeId)(hK:P.underlying K=some .string)(b r n:Nat)(V:B8->Option Value)(L:B8->Prop)(dF:Nat)(mk:B8->Value)(iW:∀ k u,V k=some u->u=mk k)
  (CF:a.eval it=.pointer (some ⟨r,0,none⟩)) (h:mr P K w b r n V L dF)
  (oM:(∀ k,¬ L k)->wpList P ops Q rest (a.put o.dst (.tuple #[.bool false])) w)
  (oN:∀ (k:B8) (w':W8) (cw:Nat),L k->V k=some (mk k)->mr P K w' b r n V (λ x=>L x/\x≠k) cw->cw<dF->w.grownBy w' (some r)->w'.heap.size=w.heap.size ->
   (Instr.entry (.pointer (some ⟨r,0,none⟩))).run P w'=.ok (.tuple #[.string k,mk k]) w'->wpList P ops Q rest (a.put o.dst (.tuple #[.bool true,.string k,mk k])) w'):
  wpList P ops Q (o::rest) a w:=by
 obtain⟨D,left,h1,h2,h3⟩:=h;refine wpList_next_ranges w hg it bM K (string_keyed hK) vW Value.string (id:Value->Value) (λ key kl hkey=>zo4 hK hkey) (λ v y _=>⟨v,rfl⟩) b r n D left dF CF h1 (λ _ hl=>oM λ k hk=>by rw[<-h3,hl] at hk;cases hk) ?_;intro x c kl y w' cw hkey aN hv gT jf bP nk hsz oj;have du:=z0p hK hkey;subst du;have hy:=zdm (v:=c) (d:=y.1) (ps:=y.2) hv;have hV:V x=some c:=by
  have e1:=(h2 x).2 undef;have e2:=(h2 x).2 (.bool true);rw[gT,hy] at e1 e2;injection e1 with e1
  injection e2 with e2
  cases hVx:V x with
  | none=>rw[hVx] at e1 e2;rw[e1] at e2;cases e2
  | some u=>rw[hVx] at e1;rw[e1];rfl
 have hc:=iW x c hV;subst hc;refine oN x w' cw ((h3 x).1 aN) hV ⟨D,_,jf,h2,λ k=>?_⟩ bP nk hsz oj;rw[Bool.and_eq_true,h3,Bool.not_eq_true'];refine and_congr_right λ _=>⟨λ hs e=>?_,λ bG=>Maps.sameKey_ne (zte bG)⟩
 subst e;rw[WideAt.sameKey_self (by trivial)] at hs
 cases hs
end
end
section
open Go.RowKit Go.Maps Go.ChangeMaps Go.WideMaps
abbrev Th:=B8 × List B8
abbrev Th.p (t:Th):B8:=t.1
abbrev Th.ts (t:Th):List B8:=t.2
def xE (l:List B8)(i:Nat):B8:=(l[i]?).getD ⟨#[]⟩
def zJ (t:Th):V8:=[.string t.p,.string (xE t.ts 0),.string (xE t.ts 1),.string (xE t.ts 2),.string (xE t.ts 3)]
def thV (t:Th):Value:=.agg (zJ t).toArray
structure zba (t:Th):Prop where
 pd:t.p.size<=1000000000
 ft:t.ts.length<=4
 sz:∀ x∈t.ts,x.size<=1000000000
 ne:∀ x∈t.ts,0<x.size
theorem z9q {t:Th}(h:zba t)(i:Nat):(xE t.ts i).size<=1000000000:=by
 unfold xE;rcases Nat.lt_or_ge i t.ts.length with hi | hi
 ·rw[List.getElem?_eq_getElem hi];exact h.sz _ (List.getElem_mem hi)
 ·rw[List.getElem?_eq_none hi];simp[ByteArray.size]
theorem zpi {t:Th}(h:zba t){i:Nat}(hi:i<t.ts.length):0<(xE t.ts i).size:=by
 unfold xE;rw[List.getElem?_eq_getElem hi];exact h.ne _ (List.getElem_mem hi)
theorem zle {l:List B8}{i:Nat}(hi:l.length<=i):(xE l i).size=0:=by
 unfold xE;rw[List.getElem?_eq_none hi];rfl
theorem z27 {a b:Th}(ha:zba a)(hb:zba b)(h:thV a=thV b):a=b:=by
 obtain⟨p,ts⟩:=a;obtain⟨q,us⟩:=b;simp only[thV,zJ,Value.agg.injEq,Array.mk.injEq,List.cons.injEq,Value.string.injEq,and_true] at h;obtain⟨hp,h0,h1,h2,h3⟩:=h;subst hp;have hn:∀ i,i<4->xE ts i=xE us i:=λ i hi=>by
  match i,hi with
  | 0,_=>exact h0
  | 1,_=>exact h1
  | 2,_=>exact h2
  | 3,_=>exact h3
 have hf:ts.length<=4:=ha.ft;have hg:us.length<=4:=hb.ft;have hl:ts.length=us.length:=by
  rcases Nat.lt_trichotomy ts.length us.length with h | h | h
  ·have e:=hn ts.length (by omega);have p1:0<(xE us ts.length).size:=zpi hb h;have p2:=zle (l:=ts) L9;rw[e] at p2;omega
  ·exact h
  ·have e:=hn us.length (by omega);have p1:0<(xE ts us.length).size:=zpi ha h;have p2:=zle (l:=us) L9;rw[<-e] at p2;omega
 congr 1
 refine List.ext_getElem hl λ i h1 h2=>?_
 have:=hn i (by omega);unfold xE at this;rw[List.getElem?_eq_getElem h1,List.getElem?_eq_getElem h2] at this;exact this
theorem zsj:ArrKey Tryz.prog 88 9 5:=⟨Tryz.underlying88,by kernel_rfl,by kernel_rfl,by kernel_rfl⟩
theorem ycy:KeyLaw Tryz.prog 88:=zsj.law
theorem zcj:Keyed Tryz.prog 88:=Keyed.of_law ycy
theorem zwd:∃ m,Tryz.prog.types.size=m+1:=⟨Tryz.prog.types.size-1,by have:0<Tryz.prog.types.size:=of_decide_eq_true (by kernel_rfl);omega⟩
theorem z6y {t:Th}(h:zba t):∃ l,keyOf Tryz.prog 88 (thV t)=some l:=by
 have JA:=zsj.keyType zwd;obtain⟨m,hm⟩:=zwd;have s0:t.p.size<=maxLen:=by have:=h.pd;unfold maxLen;omega
 have s1:∀ i,(xE t.ts i).size<=maxLen:=λ i=>by have:=z9q h i;unfold maxLen;omega
 unfold keyOf;simp only[zsj.hu];rw[if_pos (by simp[JA,Value.formed,zsj.hu,zsj.size,thV,zJ]),hm];unfold Program.keyLits;simp only[zsj.hu,thV,Value.cells];rw[if_pos (by rw[zsj.size];rfl),show List.range 5=[0,1,2,3,4] from rfl,List.mapM_cons,List.mapM_cons,List.mapM_cons,List.mapM_cons,List.mapM_cons,List.mapM_nil];simp[zsj.one,Program.keyLits,zJ,Tryz.underlying9,s0,s1]
def zW (L:List (Th × Nat))(t:Th):Option Nat:=(L.find? λ p=>decide (p.1=t)).map (·.2)
def zh1 (L:List (Th × Nat))(t:Th)(h:Nat):List (Th × Nat):=if (zW L t).isSome then L.map (λ p=>if p.1=t then (t,h) else p) else L++[(t,h)]
theorem vM {L:List (Th × Nat)}{t:Th}{n:Nat}(h:zW L t=some n):(t,n)∈L:=by
 unfold zW at h;obtain⟨p,hp,rfl⟩:=Option.map_eq_some_iff.1 h;have h1:=List.mem_of_find?_eq_some hp;have h2:=List.find?_some hp;rw[<-of_decide_eq_true h2];exact h1
theorem j5 {L:List (Th × Nat)}{t:Th}(h:zW L t=none):∀ n,(t,n)∉L:=by
 intro n hn;unfold zW at h;rw[Option.map_eq_none_iff,List.find?_eq_none] at h;exact h _ hn (decide_eq_true rfl)
theorem qW {L:List (Th × Nat)}(hd:(L.map (·.1)).Nodup){t:Th}{n:Nat}(h:(t,n)∈L):zW L t=some n:=by
 cases hl:zW L t with
 | none=>exact absurd h (j5 hl n)
 | some m=>
  have h1:=vM hl;have:∀ (L:List (Th × Nat)),(L.map (·.1)).Nodup->(t,n)∈L->(t,m)∈L->m=n:=by
   intro L
   induction L with
   | nil=>intro _ h;cases h
   | cons x r ih=>
    intro hd h1 h2;rw[List.map_cons,List.nodup_cons] at hd;rcases List.mem_cons.1 h1 with e1 | e1 <;> rcases List.mem_cons.1 h2 with e2 | e2
    ·have:=e1.trans e2.symm;injection this with _ this;exact this.symm
    ·exact absurd (List.mem_map_of_mem (f:=Prod.fst) e2) (by rw[<-e1] at hd;exact hd.1)
    ·exact absurd (List.mem_map_of_mem (f:=Prod.fst) e1) (by rw[<-e2] at hd;exact hd.1)
    ·exact ih hd.2 e1 e2
  rw[this L hd h h1]
def vV (w:W8)(b:Nat)(L:List (Th × Nat)):Prop:=
 ∃ D:DataW Value,w.ownsMap Tryz.prog 88 vW b L.length D/\Maps.size D=L.length/\(L.map (·.1)).Nodup/\(∀ p∈L,zba p.1) /\
  (∀ p∈L,∀ l,keyOf Tryz.prog 88 (thV p.1)=some l->Maps.has D l=true/\∀ z,D.atKey l z=.held (.int .i64 p.2)) /\
  (∀ l,Maps.has D l=true->∃ p∈L,keyOf Tryz.prog 88 (thV p.1)=some l)
theorem vV.made (w:W8):vV (w.alloc (.map #[] 0)) w.heap.size []:=
 ⟨.map [],World.ownsMap_made w _ _ vW,rfl,by simp,by simp,by simp,λ l h=>by cases h⟩
theorem vV.lt {w:W8}{b:Nat}{L:List (Th × Nat)}(h:vV w b L):b<w.heap.size:=by obtain⟨D,hD,_⟩:=h;exact hD.lt
theorem vV.ok {w:W8}{b:Nat}{L:List (Th × Nat)}(h:vV w b L):∀ p∈L,zba p.1:=by obtain⟨D,_,_,_,h,_⟩:=h;exact h
theorem vV.nodup {w:W8}{b:Nat}{L:List (Th × Nat)}(h:vV w b L):(L.map (·.1)).Nodup:=by obtain⟨D,_,_,h,_⟩:=h;exact h
theorem vV.kept {w w':W8}{b:Nat}{L:List (Th × Nat)}{row:Option Nat}(h:vV w b L)(hg:w.grownBy w' row)(hr:some b≠row):vV w' b L:=by
 obtain⟨D,hD,h⟩:=h;exact⟨D,hD.kept hg hr,h⟩
theorem vV.block {w w':W8}{b:Nat}{L:List (Th × Nat)}(h:vV w b L)(hb:w'.heap[b]?=w.heap[b]?):vV w' b L:=by
 obtain⟨D,⟨es,clock,h1,h2⟩,h3⟩:=h;exact⟨D,⟨es,clock,hb.trans h1,h2⟩,h3⟩
theorem vV.alloc {w:W8}{b:Nat}{L:List (Th × Nat)}(h:vV w b L)(o:Obj):vV (w.alloc o) b L:=h.kept (World.grownBy_alloc w o none) (by simp)
theorem vV.isMap {w:W8}{b:Nat}{L:List (Th × Nat)}(h:vV w b L):∃ es clock,w.heap[b]?=some (.map es clock):=by
 obtain⟨D,⟨es,clock,h1,_⟩,_⟩:=h;exact⟨es,clock,h1⟩
theorem zfc {a b:Th}{l:Lit}(ha:zba a)(hb:zba b)(h1:keyOf Tryz.prog 88 (thV a)=some l)(h2:keyOf Tryz.prog 88 (thV b)=some l):a=b:=z27 ha hb (zcj.inj h1 h2)
theorem vV.look {w:W8}{b:Nat}{L:List (Th × Nat)}(h:vV w b L){t:Th}(ht:zba t){T:TypeId}(hT:Tryz.prog.underlying T=some (.map 88 3)):
  (Instr.lookup T (.map (some b)) (thV t) true).run Tryz.prog w=.ok (.tuple #[.int .i64 (((zW L t).getD 0:Nat):Int),.bool (zW L t).isSome]) w:=by
 obtain⟨D,hD,hs,hn,bX,bh,fj⟩:=h;obtain⟨l,hl⟩:=z6y ht;obtain⟨v,ps,fC,hv⟩:=hD.look_ok zcj hT (z:=.int .i64 0) (by kernel_rfl) (zd:=.held (.int .i64 0)) (zp:=[]) rfl hl;have h1:=zdm hv
 cases hk:zW L t with
 | some n=>
  obtain⟨h2,h3⟩:=bh _ (vM hk) l hl;rw[h3] at h1;have h1:=DataW.held.inj h1;subst h1;rw[h2] at fC;exact fC
 | none=>
  have h2:Maps.has D l=false:=by
   cases hh:Maps.has D l with
   | false=>rfl
   | true=>
    obtain⟨p,hp,dP⟩:=fj l hh;have e:=zfc (bX p hp) ht dP hl;exact absurd (show (t,p.2)∈L by rw[<-e];exact hp) (j5 hk _)
  rw[Maps.atKey_of_not_has h2] at h1;have h1:=DataW.held.inj h1;subst h1;rw[h2] at fC;exact fC
theorem zls (L:List (Th × Nat))(t:Th)(n:Nat):(zh1 L t n).length=if (zW L t).isSome then L.length else L.length+1:=by
 unfold zh1
 split <;> simp
theorem zj6 {L:List (Th × Nat)}{t:Th}{n:Nat}{p:Th × Nat}(h:p∈zh1 L t n):p=(t,n)\/(p∈L/\p.1≠t):=by
 unfold zh1 at h
 split at h
 ·obtain⟨q,hq,rfl⟩:=List.mem_map.1 h
  split
  ·exact .inl rfl
  ·rename_i bG;exact .inr ⟨hq,bG⟩
 ·rename_i bG;rcases List.mem_append.1 h with h | h
  ·refine .inr ⟨h,λ e=>?_⟩;have cP:zW L t=none:=(by simpa using bG);exact j5 cP p.2 (by rw[<-e];exact h)
  ·exact .inl (List.mem_singleton.1 h)
theorem Mx (L:List (Th × Nat))(t:Th)(n:Nat):(t,n)∈zh1 L t n:=by
 unfold zh1
 split
 ·rename_i h;obtain⟨m,hm⟩:=Option.isSome_iff_exists.1 h;exact List.mem_map.2 ⟨_,vM hm,by simp⟩
 ·simp
theorem zf3 {L:List (Th × Nat)}{t:Th}{n:Nat}{p:Th × Nat}(h:p∈L)(bG:p.1≠t):p∈zh1 L t n:=by
 unfold zh1
 split
 ·exact List.mem_map.2 ⟨p,h,by simp[bG]⟩
 ·exact List.mem_append_left _ h
theorem z16 {L:List (Th × Nat)}{t:Th}{n:Nat}:(zh1 L t n).map (·.1)=if (zW L t).isSome then L.map (·.1) else L.map (·.1)++[t]:=by
 unfold zh1
 split
 ·rw[List.map_map];refine List.map_congr_left λ p _=>?_
  simp only[Function.comp]
  split
  ·rename_i e;exact e.symm
  ·rfl
 ·simp
theorem LL {L:List (Th × Nat)}{t:Th}{n:Nat}(h:(L.map (·.1)).Nodup):((zh1 L t n).map (·.1)).Nodup:=by
 rw[z16]
 split
 ·exact h
 ·rename_i bG;refine List.nodup_append.2 ⟨h,by simp,λ a ha b hb=>?_⟩;rw[List.mem_singleton.1 hb];rintro rfl;obtain⟨p,hp,e⟩:=List.mem_map.1 ha;have cP:zW L a=none:=by simpa using bG
  exact j5 cP p.2 (by rw[<-e];exact hp)
theorem zpm {P:Program}{K:TypeId}{w:W8}{b n:Nat}{D:DataW Value}(h:w.ownsMap P K vW b n D):w.ownsMap P K vW b (Maps.size D) D:=by
 obtain⟨es,clock,hb,F,hs,rfl⟩:=h;exact⟨es,clock,hb,F,by simp[Maps.size,length_sorted],rfl⟩
theorem vV.put {w:W8}{b:Nat}{L:List (Th × Nat)}(h:vV w b L){t:Th}(ht:zba t)(n:Nat)(hL:L.length<maxLen){T:TypeId}(hT:Tryz.prog.underlying T=some (.map 88 3)):
  ∃ w',(Instr.mapUpdate T (.map (some b)) (thV t) (.int .i64 n)).run Tryz.prog w=.ok () w'/\vV w' b (zh1 L t n)/\w.mapTurned w' b:=by
 obtain⟨D,hD,hs,hn,bX,bh,fj⟩:=h;obtain⟨l,hl⟩:=z6y ht;obtain⟨w',fC,aI,zw⟩:=hD.store zcj hT hL hl (val:=.int .i64 n) (d:=.held (.int .i64 n)) (ps:=[]) rfl;have du:=zcj.key hl;have ur:Maps.has D l=(zW L t).isSome:=by
  cases hk:zW L t with
  | some m=>exact (bh _ (vM hk) l hl).1
  | none=>
   cases hh:Maps.has D l with
   | false=>rfl
   | true=>
    obtain⟨p,hp,dP⟩:=fj l hh;have e:=zfc (bX p hp) ht dP hl;exact absurd (show (t,p.2)∈L by rw[<-e];exact hp) (j5 hk _)
 have hsz:Maps.size (D.put l (.held (.int .i64 n)))=(zh1 L t n).length:=by
  rw[Maps.size_put (hD.tidy zcj),ur,zls,hs]
 refine⟨w',fC,⟨_,?_,hsz,LL hn,λ p hp=>?_,λ p hp l' mE=>?_,λ l' mE=>?_⟩,zw⟩
 ·rw[<-hsz];exact zpm aI
 ·rcases zj6 hp with rfl | ⟨hp,_⟩
  ·exact ht
  ·exact bX p hp
 ·rcases zj6 hp with rfl | ⟨hp,bG⟩
  ·have e:l'=l:=Option.some.inj (mE.symm.trans hl);subst e;exact⟨Maps.has_put_same hD.isMap du _,λ z=>Maps.atKey_put_same hD.isMap du _ _⟩
  ·have Lp:l'≠l:=λ e=>bG (zfc (bX p hp) ht (e ▸ mE) hl)
   obtain⟨h1,h2⟩:=bh p hp l' mE;exact⟨(Maps.has_put_other Lp _).trans h1,λ z=>(Maps.atKey_put_other Lp _ _).trans (h2 z)⟩
 ·by_cases e:l'=l
  ·subst e;exact⟨_,Mx L t n,hl⟩
  ·rw[Maps.has_put_other e] at mE;obtain⟨p,hp,dP⟩:=fj l' mE;exact⟨p,zf3 hp (λ e'=>e (Option.some.inj ((e' ▸ dP).symm.trans hl))),dP⟩
theorem vV.len {w:W8}{b:Nat}{L:List (Th × Nat)}(h:vV w b L){T:TypeId}(hT:Tryz.prog.underlying T=some (.map 88 3))(ty:TypeId):(Builtin.len_ #[T] ty #[.map (some b)]).run Tryz.prog w=.ok (.int .i64 (L.length:Nat)) w:=by
 obtain⟨D,hD,hs,_⟩:=h;rw[hD.len hT ty,hs]
def cQ (w:W8)(b r:Nat)(L:List (Th × Nat))(Lf:Th->Prop)(dF:Nat):Prop:=
 ∃ (D:DataW Value) (left:Lit->Bool),w.ranges Tryz.prog 88 vW b r L.length D left dF/\Maps.size D=L.length/\(L.map (·.1)).Nodup/\(∀ p∈L,zba p.1) /\
  (∀ p∈L,∀ l,keyOf Tryz.prog 88 (thV p.1)=some l->Maps.has D l=true/\∀ z,D.atKey l z=.held (.int .i64 p.2)) /\
  (∀ l,Maps.has D l=true->∃ p∈L,keyOf Tryz.prog 88 (thV p.1)=some l) /\
  (∀ p∈L,∀ l,keyOf Tryz.prog 88 (thV p.1)=some l->(left l=true↔Lf p.1))
theorem cQ.map {w:W8}{b r:Nat}{L:List (Th × Nat)}{Lf:Th->Prop}{dF:Nat}(h:cQ w b r L Lf dF):vV w b L:=by
 obtain⟨D,left,h1,h2,h3,h4,h5,h6,_⟩:=h;exact⟨D,h1.owns,h2,h3,h4,h5,h6⟩
theorem cQ.lt {w:W8}{b r:Nat}{L:List (Th × Nat)}{Lf:Th->Prop}{dF:Nat}(h:cQ w b r L Lf dF):r<w.heap.size:=by
 obtain⟨D,left,h1,_⟩:=h;exact h1.lt
theorem cQ.blocks {w w':W8}{b r:Nat}{L:List (Th × Nat)}{Lf:Th->Prop}{dF:Nat}(h:cQ w b r L Lf dF)(hb:w'.heap[b]?=w.heap[b]?)(hr:w'.heap[r]?=w.heap[r]?):cQ w' b r L Lf dF:=by
 obtain⟨D,left,⟨es,clock,since,seen,c0,h1,F,hs,hD,h2,rest⟩,h3⟩:=h;exact⟨D,left,⟨es,clock,since,seen,c0,hb.trans h1,F,hs,hD,hr.trans h2,rest⟩,h3⟩
theorem cQ.iter {w:W8}{b r:Nat}{L:List (Th × Nat)}{Lf:Th->Prop}{dF:Nat}(h:cQ w b r L Lf dF):∃ o:Obj,w.heap[r]?=some o/\o.isWalk=true:=by
 obtain⟨D,left,⟨es,clock,since,seen,c0,_,_,_,_,h2,_⟩,_⟩:=h;exact⟨_,h2,rfl⟩
section
variable (w:W8) {ops:Array Oper} {rest:List Oper} {o:Oper} {a:Act} {Q:Exit->Act->W8->Prop}
theorem zhz (hg:o.guard=none)(m:Operand)(t:TypeId)(bM:o.op=Op.range t m)(ht:Tryz.prog.underlying t=some (.map 88 3))(b:Nat)(L:List (Th × Nat))
  (hm:a.eval m=.map (some b)) (aI:vV w b L)
  (hQ:∀ w',cQ w' b w.heap.size L (λ _=>True) L.length->w.grownBy w' none->w'.heap.size=w.heap.size+1->wpList Tryz.prog ops Q rest (a.put o.dst (.pointer (some ⟨w.heap.size,0,none⟩))) w'):
  wpList Tryz.prog ops Q (o::rest) a w:=by
 obtain⟨D,hD,hs,hn,bX,bh,fj⟩:=aI;refine wpList_range_own w hg m t bM 88 3 zcj ht vW b L.length D hm hD λ w' h1 h2 im=>hQ w' ⟨D,_,by rw[<-hs] at h1 ⊢;exact h1,hs,hn,bX,bh,fj,λ p hp l hl=>?_⟩ h2 im
 exact⟨λ _=>trivial,λ _=>(bh p hp l hl).1⟩
theorem zka (hg:o.guard=none)(it:Operand)(bM:o.op=Op.next it false)(b r:Nat)(L:List (Th × Nat))(Lf:Th->Prop)(dF:Nat)
  (CF:a.eval it=.pointer (some ⟨r,0,none⟩)) (h:cQ w b r L Lf dF)
  (oM:(∀ p∈L,¬ Lf p.1)->wpList Tryz.prog ops Q rest (a.put o.dst (.tuple #[.bool false])) w)
  (oN:∀ (t:Th) (n:Nat) (w':W8) (cw:Nat),(t,n)∈L->Lf t->cQ w' b r L (λ x=>Lf x/\x≠t) cw->cw<dF->w.grownBy w' (some r)->w'.heap.size=w.heap.size ->
   (Instr.entry (.pointer (some ⟨r,0,none⟩))).run Tryz.prog w'=.ok (.tuple #[thV t,.int .i64 n]) w'->wpList Tryz.prog ops Q rest (a.put o.dst (.tuple #[.bool true,thV t,.int .i64 n])) w'):
  wpList Tryz.prog ops Q (o::rest) a w:=by
 obtain⟨D,left,h1,hs,hn,bX,bh,fj,kV⟩:=h;refine wpList_next_ranges w hg it bM 88 zcj vW (id:Value->Value) (id:Value->Value) (λ key kl _=>⟨key,rfl⟩) (λ v y _=>⟨v,rfl⟩) b r L.length D left dF CF h1
  (λ _ hl=>oM λ p hp hf=>?_) ?_
 ·obtain⟨l,hk⟩:=z6y (bX p hp);have:=(kV p hp l hk).2 hf;rw[hl] at this;cases this
 intro x c kl y w' cw hkey aN hv gT jf bP nk hsz oj;have ur:Maps.has D kl=true:=Maps.has_true_of_atKey gT;obtain⟨p,hp,dP⟩:=fj kl ur;have hx:x=thV p.1:=zcj.inj hkey dP;have hy:=zdm (v:=c) (d:=y.1) (ps:=y.2) hv;have hc:c=.int .i64 p.2:=by
  have e1:=gT (.held undef);rw[(bh p hp kl dP).2,hy] at e1;exact (DataW.held.inj e1).symm
 subst hx hc;refine oN p.1 p.2 w' cw hp ((kV p hp kl dP).1 aN) ⟨D,_,jf,hs,hn,bX,bh,fj,λ q hq l hl=>?_⟩ bP nk hsz oj;rw[Bool.and_eq_true,kV q hq l hl,Bool.not_eq_true'];refine and_congr_right λ _=>⟨λ hs e=>?_,λ bG=>Maps.sameKey_ne λ e=>bG (zfc (bX q hq) (bX p hp) (e ▸ hl) dP)⟩
 rw[e] at hl;have hl:=Option.some.inj (dP.symm.trans hl);rw[<-hl,WideAt.sameKey_self (zcj.key dP)] at hs
 cases hs
theorem zbf (hg:o.guard=none)(m x:Operand)(t:TypeId)(bM:o.op=Op.lookup t m x true)(ht:Tryz.prog.underlying t=some (.map 88 3))(b:Nat)(L:List (Th × Nat))
  (hm:a.eval m=.map (some b)) (aI:vV w b L) (th:Th) (hx:a.eval x=thV th) (nL:zba th) (u:Value) (hu:(.int .i64 (((zW L th).getD 0:Nat):Int))=u) (c:Bool) (hc:(zW L th).isSome=c)
  (hQ:wpList Tryz.prog ops Q rest (a.put o.dst (.tuple #[u,.bool c])) w):
  wpList Tryz.prog ops Q (o::rest) a w:=by
 refine wpList_plain hg λ K' hK'=>?_
 unfold Oper.wp;simp[execOp,bM,hm,hx,aI.look nL ht,Result.andThen];rw[hu,hc];exact hK' _ _ hQ
theorem zuk (hg:o.guard=none)(m x v:Operand)(t:TypeId)(bM:o.op=Op.mapUpdate t m x v)(ht:Tryz.prog.underlying t=some (.map 88 3))(b:Nat)(L:List (Th × Nat))
  (hm:a.eval m=.map (some b)) (aI:vV w b L) (hn:L.length<maxLen) (th:Th) (n:Nat) (hx:a.eval x=thV th) (hv:a.eval v=.int .i64 n) (nL:zba th)
  (hQ:∀ w',vV w' b (zh1 L th n)->w.mapTurned w' b->wpList Tryz.prog ops Q rest (a.put o.dst undef) w'):
  wpList Tryz.prog ops Q (o::rest) a w:=by
 refine wpList_plain hg λ K' hK'=>?_
 obtain⟨w',fC,h1,h2⟩:=aI.put nL n hn ht;unfold Oper.wp;simp[execOp,bM,hm,hx,hv,fC,Result.andThen];exact hK' _ _ (hQ w' h1 h2)
end
end
end Go.Proofs.YtldkpahaocjdpaaGreat
