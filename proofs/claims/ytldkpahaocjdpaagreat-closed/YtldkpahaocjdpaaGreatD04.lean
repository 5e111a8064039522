/-
  A map with strings for keys, as a plain function from texts to values: what a look-up finds, what a store leaves.
-/
import Derived.Test.YtldkpahaocjdpaaGreatD00
import Derived.Maps.OwnSet
import Derived.Maps.RangeWalk
import Derived.DeepKeys4
import Derived.WideKeyArr
import Derived.RangeFuncSeq
import Derived.Test.YtldkpahaocjdpaaGreatProg
set_option maxHeartbeats 16000000
set_option maxRecDepth 1000000
namespace Go.Proofs.YtldkpahaocjdpaaGreat
section
open Go.RowKit Go.Maps Go.ChangeMaps Go.WideMaps
def jB (v:Value):Option (DataW Value × List MemPlace):=some (.held v,[])
def z1m (s:B8):Lit:=.string s.data.toList
theorem ztx {a b:B8}(h:a≠b):z1m a≠z1m b:=λ e=>h (by
 have:a.data.toList=b.data.toList:=by simpa[z1m] using e
 exact ByteArray.ext (Array.toList_inj.1 this))
open Classical in
noncomputable def zzi (V:B8->Option Value)(k:B8)(v:Value):B8->Option Value:=λ x=>if x=k then some v else V x
theorem zal (V:B8->Option Value)(k:B8)(v:Value):zzi V k v k=some v:=by simp[zzi]
theorem jR {V:B8->Option Value}{k x:B8}{v:Value}(h:x≠k):zzi V k v x=V x:=by simp[zzi,h]
def qS (P:Program)(K:TypeId)(w:W8)(b n:Nat)(V:B8->Option Value):Prop:=
 ∃ D:DataW Value,w.ownsMap P K jB b n D/\∀ k:B8,Maps.has D (z1m k)=(V k).isSome/\∀ z,D.atKey (z1m k) (.held z)=.held ((V k).getD z)
theorem qS.made (P:Program)(K:TypeId)(w:W8):qS P K (w.alloc (.map #[] 0)) w.heap.size 0 (λ _=>none):=
 ⟨.map [],World.ownsMap_made w P K jB,λ _=>⟨rfl,λ _=>rfl⟩⟩
theorem qS.lt {P:Program}{K:TypeId}{w:W8}{b n:Nat}{V:B8->Option Value}(h:qS P K w b n V):b<w.heap.size:=by
 obtain⟨D,hD,_⟩:=h;exact hD.lt
theorem qS.block {P:Program}{K:TypeId}{w w':W8}{b n:Nat}{V:B8->Option Value}(h:qS P K w b n V)(hb:w'.heap[b]?=w.heap[b]?):qS P K w' b n V:=by
 obtain⟨D,⟨es,clock,h1,h2⟩,h3⟩:=h;exact⟨D,⟨es,clock,hb.trans h1,h2⟩,h3⟩
theorem qS.alloc {P:Program}{K:TypeId}{w:W8}{b n:Nat}{V:B8->Option Value}(h:qS P K w b n V)(o:Obj):qS P K (w.alloc o) b n V:=by
 obtain⟨D,hD,h3⟩:=h;exact⟨D,hD.alloc o,h3⟩
theorem qS.mono {P:Program}{K:TypeId}{w:W8}{b n m:Nat}{V:B8->Option Value}(h:qS P K w b n V)(hn:n<=m):qS P K w b m V:=by
 obtain⟨D,hD,h3⟩:=h;exact⟨D,hD.mono hn,h3⟩
theorem zdq {v:Value}{d:DataW Value}{ps:List MemPlace}(h:jB v=some (d,ps)):d=.held v:=by
 simp only[jB,Option.some.injEq,Prod.mk.injEq] at h;exact h.1.symm
section
variable {P:Program} (w:W8) {ops:Array Oper} {rest:List Oper} {o:Oper} {a:Act} {Q:Exit->Act->W8->Prop}
theorem vE (hg:o.guard=none)(m x:Operand)(t:TypeId)(bV:o.op=Op.lookup t m x true)
  (K e:TypeId) (hK:P.underlying K=some .string) (ht:P.underlying t=some (.map K e)) {z:Value} (hz:(zeroValue e).run P w=.ok z w) (b n:Nat) (V:B8->Option Value)
  (hm:a.eval m=.map (some b)) (aI:qS P K w b n V) (key:B8) (hx:a.eval x=.string key) (du:key.size<=maxLen) (u:Value) (hu:(V key).getD z=u) (c:Bool) (hc:(V key).isSome=c)
  (hQ:wpList P ops Q rest (a.put o.dst (.tuple #[u,.bool c])) w):
  wpList P ops Q (o::rest) a w:=by
 obtain⟨D,hD,h3⟩:=aI;refine wpList_lookup_own_ok w hg m x t bV K e (string_keyed hK) ht jB hz (.held z) [] rfl b n D hm hD (.string key) (z1m key) hx (keyOf_string_mk hK du) (λ v ps hv=>?_);have h1:=zdq hv;rw[(h3 key).2 z] at h1;have h2:(V key).getD z=v:=by injection h1
 rw[(h3 key).1,hc,<-h2,hu];exact hQ
theorem zcr (hg:o.guard=none)(m x:Operand)(t:TypeId)(bV:o.op=Op.lookup t m x false)
  (K e:TypeId) (hK:P.underlying K=some .string) (ht:P.underlying t=some (.map K e)) {z:Value} (hz:(zeroValue e).run P w=.ok z w) (b n:Nat) (V:B8->Option Value)
  (hm:a.eval m=.map (some b)) (aI:qS P K w b n V) (key:B8) (hx:a.eval x=.string key) (du:key.size<=maxLen) (u:Value) (hu:(V key).getD z=u)
  (hQ:wpList P ops Q rest (a.put o.dst u) w):
  wpList P ops Q (o::rest) a w:=by
 refine wpList_plain hg λ K' hK'=>?_
 obtain⟨D,hD,h3⟩:=aI;obtain⟨v,ps,fC,hv⟩:=hD.lookup (string_keyed hK) ht hz (zd:=.held z) (zp:=[]) rfl (keyOf_string_mk hK du);have h1:=zdq hv;rw[show DataW.atKey D (Lit.string key.data.toList) (DataW.held z)=DataW.held ((V key).getD z) from (h3 key).2 z] at h1;have h2:(V key).getD z=v:=by injection h1
 rw[<-h2,hu] at fC;unfold Oper.wp;simp[execOp,bV,hm,hx,fC,Result.andThen];exact hK' _ _ hQ
theorem zn7 (hg:o.guard=none)(m x v:Operand)(t:TypeId)(bV:o.op=Op.mapUpdate t m x v)
  (K e:TypeId) (hK:P.underlying K=some .string) (ht:P.underlying t=some (.map K e)) (b n:Nat) (V:B8->Option Value)
  (hm:a.eval m=.map (some b)) (aI:qS P K w b n V) (hn:n<maxLen) (key:B8) (u:Value) (hx:a.eval x=.string key) (hv:a.eval v=u) (du:key.size<=maxLen)
  (hQ:∀ w',qS P K w' b (n+1) (zzi V key u)->w.grownBy w' (some b)->wpList P ops Q rest (a.put o.dst undef) w'):
  wpList P ops Q (o::rest) a w:=by
 obtain⟨D,hD,h3⟩:=aI;refine wpList_mapUpdate_own w hg m x v t bV K e (string_keyed hK) ht jB b n D hm hD hn (.string key) u (z1m key) hx hv (keyOf_string_mk hK du) (.held u) [] rfl (λ w' h1 h2=>hQ w' ⟨_,h1,λ k=>?_⟩ h2)
 by_cases e:k=key
 ·subst e;rw[zal];exact⟨Maps.has_put_same hD.isMap (by trivial) _,λ z=>Maps.atKey_put_same hD.isMap (by trivial) _ _⟩
 ·rw[jR e];exact⟨(Maps.has_put_other (ztx e) _).trans (h3 k).1,λ z=>(Maps.atKey_put_other (ztx e) _ _).trans ((h3 k).2 z)⟩
end
end
section
open Go.RowKit Go.Maps Go.ChangeMaps Go.WideMaps
def AQ (P:Program)(K:TypeId)(w:W8)(b r n:Nat)(V:B8->Option Value)(L:B8->Prop)(dF:Nat):Prop:=
 ∃ (D:DataW Value) (left:Lit->Bool),w.ranges P K jB b r n D left dF/\(∀ k:B8,Maps.has D (z1m k)=(V k).isSome/\∀ z,D.atKey (z1m k) (.held z)=.held ((V k).getD z))/\∀ k,left (z1m k)=true↔L k
theorem AQ.alloc {P:Program}{K:TypeId}{w:W8}{b r n:Nat}{V:B8->Option Value}{L:B8->Prop}{dF:Nat}(h:AQ P K w b r n V L dF)(o:Obj):AQ P K (w.alloc o) b r n V L dF:=by
 obtain⟨D,left,h1,h2⟩:=h;exact⟨D,left,h1.alloc o,h2⟩
theorem z1l {P:Program}{k:TypeId}(hk:P.underlying k=some .string){s:B8}{kl:Lit}(h:keyOf P k (.string s)=some kl):kl=z1m s:=by
 simp[keyOf,hk,mapKey] at h;exact h.2.symm
theorem zph {P:Program}{k:TypeId}(hk:P.underlying k=some .string){key:Value}{kl:Lit}(h:keyOf P k key=some kl):∃ s,key=.string s:=by
 cases key <;> simp[keyOf,hk,mapKey] at h
 exact⟨_,rfl⟩
section
variable {P:Program} (w:W8) {ops:Array Oper} {rest:List Oper} {o:Oper} {a:Act} {Q:Exit->Act->W8->Prop}
theorem z8o (hg:o.guard=none)(m:Operand)(t:TypeId)(bV:o.op=Op.range t m)(K e:TypeId)(hK:P.underlying K=some .string)(ht:P.underlying t=some (.map K e))(b n:Nat)(V:B8->Option Value)
  (hm:a.eval m=.map (some b)) (aI:qS P K w b n V)
  (hQ:∀ w' dF,AQ P K w' b w.heap.size n V (λ k=>(V k).isSome=true) dF->dF<=n->w.grownBy w' none->w'.heap.size=w.heap.size+1->wpList P ops Q rest (a.put o.dst (.pointer (some ⟨w.heap.size,0,none⟩))) w'):
  wpList P ops Q (o::rest) a w:=by
 obtain⟨D,hD,h3⟩:=aI;refine wpList_range_own w hg m t bV K e (string_keyed hK) ht jB b n D hm hD λ w' h1 h2 hs=>hQ w' (Maps.size D) ⟨D,_,h1,h3,λ k=>by rw[(h3 k).1]⟩ ?_ h2 hs
 obtain⟨es,clock,_,_,hn,rfl⟩:=hD;rw[Maps.size_eq,(WideShapes.sorted_perm _).length_eq];simpa using hn
theorem yb1 (hg:o.guard=none)(it:Operand)(bV:o.op=Op.next it false)(K:TypeId)(hK:P.underlying K=some .string)(b r n:Nat)(V:B8->Option Value)(L:B8->Prop)(dF:Nat)(mk:B8->Value)(kL:∀ k u,V k=some u->u=mk k)
  (CF:a.eval it=.pointer (some ⟨r,0,none⟩)) (h:AQ P K w b r n V L dF)
  (oM:(∀ k,¬ L k)->wpList P ops Q rest (a.put o.dst (.tuple #[.bool false])) w)
  (oN:∀ (k:B8) (w':W8) (cJ:Nat),L k->V k=some (mk k)->AQ P K w' b r n V (λ x=>L x/\x≠k) cJ->cJ<dF->w.grownBy w' (some r)->w'.heap.size=w.heap.size ->
   (Instr.entry (.pointer (some ⟨r,0,none⟩))).run P w'=.ok (.tuple #[.string k,mk k]) w'->wpList P ops Q rest (a.put o.dst (.tuple #[.bool true,.string k,mk k])) w'):
  wpList P ops Q (o::rest) a w:=by
 obtain⟨D,left,h1,h2,h3⟩:=h;refine wpList_next_ranges w hg it bV K (string_keyed hK) jB Value.string (id:Value->Value) (λ key kl hkey=>zph hK hkey) (λ v y _=>⟨v,rfl⟩) b r n D left dF CF h1 (λ _ hl=>oM λ k hk=>by rw[<-h3,hl] at hk;cases hk) ?_;intro x c kl y w' cJ hkey aN hv gT jf bP Ep hsz oj;have du:=z1l hK hkey;subst du;have hy:=zdq (v:=c) (d:=y.1) (ps:=y.2) hv;have hV:V x=some c:=by
  have e1:=(h2 x).2 undef;have e2:=(h2 x).2 (.bool true);rw[gT,hy] at e1 e2;injection e1 with e1
  injection e2 with e2
  cases hVx:V x with
  | none=>rw[hVx] at e1 e2;rw[e1] at e2;cases e2
  | some u=>rw[hVx] at e1;rw[e1];rfl
 have hc:=kL x c hV;subst hc;refine oN x w' cJ ((h3 x).1 aN) hV ⟨D,_,jf,h2,λ k=>?_⟩ bP Ep hsz oj;rw[Bool.and_eq_true,h3,Bool.not_eq_true'];refine and_congr_right λ _=>⟨λ hs e=>?_,λ bG=>Maps.sameKey_ne (ztx bG)⟩
 subst e;rw[WideAt.sameKey_self (by trivial)] at hs
 cases hs
end
end
section
open Go.RowKit Go.Maps Go.ChangeMaps Go.WideMaps
abbrev Th:=B8 × List B8
abbrev Th.p (t:Th):B8:=t.1
abbrev Th.ts (t:Th):List B8:=t.2
def xF (l:List B8)(i:Nat):B8:=(l[i]?).getD ⟨#[]⟩
def zJ (t:Th):V8:=[.string t.p,.string (xF t.ts 0),.string (xF t.ts 1),.string (xF t.ts 2),.string (xF t.ts 3)]
def thV (t:Th):Value:=.agg (zJ t).toArray
structure zbj (t:Th):Prop where
 pd:t.p.size<=1000000000
 ft:t.ts.length<=4
 sz:∀ x∈t.ts,x.size<=1000000000
 ne:∀ x∈t.ts,0<x.size
theorem yay {t:Th}(h:zbj t)(i:Nat):(xF t.ts i).size<=1000000000:=by
 unfold xF;rcases Nat.lt_or_ge i t.ts.length with hi | hi
 ·rw[List.getElem?_eq_getElem hi];exact h.sz _ (List.getElem_mem hi)
 ·rw[List.getElem?_eq_none hi];simp[ByteArray.size]
theorem zps {t:Th}(h:zbj t){i:Nat}(hi:i<t.ts.length):0<(xF t.ts i).size:=by
 unfold xF;rw[List.getElem?_eq_getElem hi];exact h.ne _ (List.getElem_mem hi)
theorem zll {l:List B8}{i:Nat}(hi:l.length<=i):(xF l i).size=0:=by
 unfold xF;rw[List.getElem?_eq_none hi];rfl
theorem z36 {a b:Th}(ha:zbj a)(hb:zbj b)(h:thV a=thV b):a=b:=by
 obtain⟨p,ts⟩:=a;obtain⟨q,us⟩:=b;simp only[thV,zJ,Value.agg.injEq,Array.mk.injEq,List.cons.injEq,Value.string.injEq,and_true] at h;obtain⟨hp,h0,h1,h2,h3⟩:=h;subst hp;have hn:∀ i,i<4->xF ts i=xF us i:=λ i hi=>by
  match i,hi with
  | 0,_=>exact h0
  | 1,_=>exact h1
  | 2,_=>exact h2
  | 3,_=>exact h3
 have hf:ts.length<=4:=ha.ft;have hg:us.length<=4:=hb.ft;have hl:ts.length=us.length:=by
  rcases Nat.lt_trichotomy ts.length us.length with h | h | h
  ·have e:=hn ts.length (by omega);have p1:0<(xF us ts.length).size:=zps hb h;have p2:=zll (l:=ts) L9;rw[e] at p2;omega
  ·exact h
  ·have e:=hn us.length (by omega);have p1:0<(xF ts us.length).size:=zps ha h;have p2:=zll (l:=us) L9;rw[<-e] at p2;omega
 congr 1
 refine List.ext_getElem hl λ i h1 h2=>?_
 have:=hn i (by omega);unfold xF at this;rw[List.getElem?_eq_getElem h1,List.getElem?_eq_getElem h2] at this;exact this
theorem zs1:ArrKey Tryz.prog 88 9 5:=⟨Tryz.underlying88,by kernel_rfl,by kernel_rfl,by kernel_rfl⟩
theorem yef:KeyLaw Tryz.prog 88:=zs1.law
theorem zcq:Keyed Tryz.prog 88:=Keyed.of_law yef
theorem zw1:∃ m,Tryz.prog.types.size=m+1:=⟨Tryz.prog.types.size-1,by have:0<Tryz.prog.types.size:=of_decide_eq_true (by kernel_rfl);omega⟩
theorem z8c {t:Th}(h:zbj t):∃ l,keyOf Tryz.prog 88 (thV t)=some l:=by
 have JA:=zs1.keyType zw1;obtain⟨m,hm⟩:=zw1;have s0:t.p.size<=maxLen:=by have:=h.pd;unfold maxLen;omega
 have s1:∀ i,(xF t.ts i).size<=maxLen:=λ i=>by have:=yay h i;unfold maxLen;omega
 unfold keyOf;simp only[zs1.hu];rw[if_pos (by simp[JA,Value.formed,zs1.hu,zs1.size,thV,zJ]),hm];unfold Program.keyLits;simp only[zs1.hu,thV,Value.cells];rw[if_pos (by rw[zs1.size];rfl),show List.range 5=[0,1,2,3,4] from rfl,List.mapM_cons,List.mapM_cons,List.mapM_cons,List.mapM_cons,List.mapM_cons,List.mapM_nil];simp[zs1.one,Program.keyLits,zJ,Tryz.underlying9,s0,s1]
def z7 (L:List (Th × Nat))(t:Th):Option Nat:=(L.find? λ p=>decide (p.1=t)).map (·.2)
def zia (L:List (Th × Nat))(t:Th)(h:Nat):List (Th × Nat):=if (z7 L t).isSome then L.map (λ p=>if p.1=t then (t,h) else p) else L++[(t,h)]
theorem vP {L:List (Th × Nat)}{t:Th}{n:Nat}(h:z7 L t=some n):(t,n)∈L:=by
 unfold z7 at h;obtain⟨p,hp,rfl⟩:=Option.map_eq_some_iff.1 h;have h1:=List.mem_of_find?_eq_some hp;have h2:=List.find?_some hp;rw[<-of_decide_eq_true h2];exact h1
theorem j8 {L:List (Th × Nat)}{t:Th}(h:z7 L t=none):∀ n,(t,n)∉L:=by
 intro n hn;unfold z7 at h;rw[Option.map_eq_none_iff,List.find?_eq_none] at h;exact h _ hn (decide_eq_true rfl)
theorem zaf {L:List (Th × Nat)}(hd:(L.map (·.1)).Nodup){t:Th}{n:Nat}(h:(t,n)∈L):z7 L t=some n:=by
 cases hl:z7 L t with
 | none=>exact absurd h (j8 hl n)
 | some m=>
  have h1:=vP hl;have:∀ (L:List (Th × Nat)),(L.map (·.1)).Nodup->(t,n)∈L->(t,m)∈L->m=n:=by
   intro L
   induction L with
   | nil=>intro _ h;cases h
   | cons x r ih=>
    intro hd h1 h2;rw[List.map_cons,List.nodup_cons] at hd;rcases List.mem_cons.1 h1 with e1 | e1 <;> rcases List.mem_cons.1 h2 with e2 | e2
    ·have:=e1.trans e2.symm;injection this with _ this;exact this.symm
    ·exact absurd (List.mem_map_of_mem (f:=Prod.fst) e2) (by rw[<-e1] at hd;exact hd.1)
    ·exact absurd (List.mem_map_of_mem (f:=Prod.fst) e1) (by rw[<-e2] at hd;exact hd.1)
    ·exact ih hd.2 e1 e2
  rw[this L hd h h1]
def jA (w:W8)(b:Nat)(L:List (Th × Nat)):Prop:=
 ∃ D:DataW Value,w.ownsMap Tryz.prog 88 jB b L.length D/\Maps.size D=L.length/\(L.map (·.1)).Nodup/\(∀ p∈L,zbj p.1) /\
  (∀ p∈L,∀ l,keyOf Tryz.prog 88 (thV p.1)=some l->Maps.has D l=true/\∀ z,D.atKey l z=.held (.int .i64 p.2)) /\
  (∀ l,Maps.has D l=true->∃ p∈L,keyOf Tryz.prog 88 (thV p.1)=some l)
theorem jA.made (w:W8):jA (w.alloc (.map #[] 0)) w.heap.size []:=
 ⟨.map [],World.ownsMap_made w _ _ jB,rfl,by simp,by simp,by simp,λ l h=>by cases h⟩
theorem jA.lt {w:W8}{b:Nat}{L:List (Th × Nat)}(h:jA w b L):b<w.heap.size:=by obtain⟨D,hD,_⟩:=h;exact hD.lt
theorem jA.ok {w:W8}{b:Nat}{L:List (Th × Nat)}(h:jA w b L):∀ p∈L,zbj p.1:=by obtain⟨D,_,_,_,h,_⟩:=h;exact h
theorem jA.nodup {w:W8}{b:Nat}{L:List (Th × Nat)}(h:jA w b L):(L.map (·.1)).Nodup:=by obtain⟨D,_,_,h,_⟩:=h;exact h
theorem jA.kept {w w':W8}{b:Nat}{L:List (Th × Nat)}{row:Option Nat}(h:jA w b L)(hg:w.grownBy w' row)(hr:some b≠row):jA w' b L:=by
 obtain⟨D,hD,h⟩:=h;exact⟨D,hD.kept hg hr,h⟩
theorem jA.block {w w':W8}{b:Nat}{L:List (Th × Nat)}(h:jA w b L)(hb:w'.heap[b]?=w.heap[b]?):jA w' b L:=by
 obtain⟨D,⟨es,clock,h1,h2⟩,h3⟩:=h;exact⟨D,⟨es,clock,hb.trans h1,h2⟩,h3⟩
theorem jA.alloc {w:W8}{b:Nat}{L:List (Th × Nat)}(h:jA w b L)(o:Obj):jA (w.alloc o) b L:=h.kept (World.grownBy_alloc w o none) (by simp)
theorem jA.isMap {w:W8}{b:Nat}{L:List (Th × Nat)}(h:jA w b L):∃ es clock,w.heap[b]?=some (.map es clock):=by
 obtain⟨D,⟨es,clock,h1,_⟩,_⟩:=h;exact⟨es,clock,h1⟩
theorem zfj {a b:Th}{l:Lit}(ha:zbj a)(hb:zbj b)(h1:keyOf Tryz.prog 88 (thV a)=some l)(h2:keyOf Tryz.prog 88 (thV b)=some l):a=b:=z36 ha hb (zcq.inj h1 h2)
theorem jA.look {w:W8}{b:Nat}{L:List (Th × Nat)}(h:jA w b L){t:Th}(ht:zbj t){T:TypeId}(hT:Tryz.prog.underlying T=some (.map 88 3)):
  (Instr.lookup T (.map (some b)) (thV t) true).run Tryz.prog w=.ok (.tuple #[.int .i64 (((z7 L t).getD 0:Nat):Int),.bool (z7 L t).isSome]) w:=by
 obtain⟨D,hD,hs,hn,bX,ad,fj⟩:=h;obtain⟨l,hl⟩:=z8c ht;obtain⟨v,ps,fC,hv⟩:=hD.look_ok zcq hT (z:=.int .i64 0) (by kernel_rfl) (zd:=.held (.int .i64 0)) (zp:=[]) rfl hl;have h1:=zdq hv
 cases hk:z7 L t with
 | some n=>
  obtain⟨h2,h3⟩:=ad _ (vP hk) l hl;rw[h3] at h1;have h1:=DataW.held.inj h1;subst h1;rw[h2] at fC;exact fC
 | none=>
  have h2:Maps.has D l=false:=by
   cases hh:Maps.has D l with
   | false=>rfl
   | true=>
    obtain⟨p,hp,dP⟩:=fj l hh;have e:=zfj (bX p hp) ht dP hl;exact absurd (show (t,p.2)∈L by rw[<-e];exact hp) (j8 hk _)
  rw[Maps.atKey_of_not_has h2] at h1;have h1:=DataW.held.inj h1;subst h1;rw[h2] at fC;exact fC
theorem zlz (L:List (Th × Nat))(t:Th)(n:Nat):(zia L t n).length=if (z7 L t).isSome then L.length else L.length+1:=by
 unfold zia
 split <;> simp
theorem zke {L:List (Th × Nat)}{t:Th}{n:Nat}{p:Th × Nat}(h:p∈zia L t n):p=(t,n)\/(p∈L/\p.1≠t):=by
 unfold zia at h
 split at h
 ·obtain⟨q,hq,rfl⟩:=List.mem_map.1 h
  split
  ·exact .inl rfl
  ·rename_i bG;exact .inr ⟨hq,bG⟩
 ·rename_i bG;rcases List.mem_append.1 h with h | h
  ·refine .inr ⟨h,λ e=>?_⟩;have cP:z7 L t=none:=(by simpa using bG);exact j8 cP p.2 (by rw[<-e];exact h)
  ·exact .inl (List.mem_singleton.1 h)
theorem M4 (L:List (Th × Nat))(t:Th)(n:Nat):(t,n)∈zia L t n:=by
 unfold zia
 split
 ·rename_i h;obtain⟨m,hm⟩:=Option.isSome_iff_exists.1 h;exact List.mem_map.2 ⟨_,vP hm,by simp⟩
 ·simp
theorem zge {L:List (Th × Nat)}{t:Th}{n:Nat}{p:Th × Nat}(h:p∈L)(bG:p.1≠t):p∈zia L t n:=by
 unfold zia
 split
 ·exact List.mem_map.2 ⟨p,h,by simp[bG]⟩
 ·exact List.mem_append_left _ h
theorem z24 {L:List (Th × Nat)}{t:Th}{n:Nat}:(zia L t n).map (·.1)=if (z7 L t).isSome then L.map (·.1) else L.map (·.1)++[t]:=by
 unfold zia
 split
 ·rw[List.map_map];refine List.map_congr_left λ p _=>?_
  simp only[Function.comp]
  split
  ·rename_i e;exact e.symm
  ·rfl
 ·simp
theorem Ml {L:List (Th × Nat)}{t:Th}{n:Nat}(h:(L.map (·.1)).Nodup):((zia L t n).map (·.1)).Nodup:=by
 rw[z24]
 split
 ·exact h
 ·rename_i bG;refine List.nodup_append.2 ⟨h,by simp,λ a ha b hb=>?_⟩;rw[List.mem_singleton.1 hb];rintro rfl;obtain⟨p,hp,e⟩:=List.mem_map.1 ha;have cP:z7 L a=none:=by simpa using bG
  exact j8 cP p.2 (by rw[<-e];exact hp)
theorem zpu {P:Program}{K:TypeId}{w:W8}{b n:Nat}{D:DataW Value}(h:w.ownsMap P K jB b n D):w.ownsMap P K jB b (Maps.size D) D:=by
 obtain⟨es,clock,hb,F,hs,rfl⟩:=h;exact⟨es,clock,hb,F,by simp[Maps.size,length_sorted],rfl⟩
theorem jA.put {w:W8}{b:Nat}{L:List (Th × Nat)}(h:jA w b L){t:Th}(ht:zbj t)(n:Nat)(hL:L.length<maxLen){T:TypeId}(hT:Tryz.prog.underlying T=some (.map 88 3)):
  ∃ w',(Instr.mapUpdate T (.map (some b)) (thV t) (.int .i64 n)).run Tryz.prog w=.ok () w'/\jA w' b (zia L t n)/\w.mapTurned w' b:=by
 obtain⟨D,hD,hs,hn,bX,ad,fj⟩:=h;obtain⟨l,hl⟩:=z8c ht;obtain⟨w',fC,aI,zw⟩:=hD.store zcq hT hL hl (val:=.int .i64 n) (d:=.held (.int .i64 n)) (ps:=[]) rfl;have du:=zcq.key hl;have ur:Maps.has D l=(z7 L t).isSome:=by
  cases hk:z7 L t with
  | some m=>exact (ad _ (vP hk) l hl).1
  | none=>
   cases hh:Maps.has D l with
   | false=>rfl
   | true=>
    obtain⟨p,hp,dP⟩:=fj l hh;have e:=zfj (bX p hp) ht dP hl;exact absurd (show (t,p.2)∈L by rw[<-e];exact hp) (j8 hk _)
 have hsz:Maps.size (D.put l (.held (.int .i64 n)))=(zia L t n).length:=by
  rw[Maps.size_put (hD.tidy zcq),ur,zlz,hs]
 refine⟨w',fC,⟨_,?_,hsz,Ml hn,λ p hp=>?_,λ p hp l' mE=>?_,λ l' mE=>?_⟩,zw⟩
 ·rw[<-hsz];exact zpu aI
 ·rcases zke hp with rfl | ⟨hp,_⟩
  ·exact ht
  ·exact bX p hp
 ·rcases zke hp with rfl | ⟨hp,bG⟩
  ·have e:l'=l:=Option.some.inj (mE.symm.trans hl);subst e;exact⟨Maps.has_put_same hD.isMap du _,λ z=>Maps.atKey_put_same hD.isMap du _ _⟩
  ·have LR:l'≠l:=λ e=>bG (zfj (bX p hp) ht (e ▸ mE) hl)
   obtain⟨h1,h2⟩:=ad p hp l' mE;exact⟨(Maps.has_put_other LR _).trans h1,λ z=>(Maps.atKey_put_other LR _ _).trans (h2 z)⟩
 ·by_cases e:l'=l
  ·subst e;exact⟨_,M4 L t n,hl⟩
  ·rw[Maps.has_put_other e] at mE;obtain⟨p,hp,dP⟩:=fj l' mE;exact⟨p,zge hp (λ e'=>e (Option.some.inj ((e' ▸ dP).symm.trans hl))),dP⟩
theorem jA.len {w:W8}{b:Nat}{L:List (Th × Nat)}(h:jA w b L){T:TypeId}(hT:Tryz.prog.underlying T=some (.map 88 3))(ty:TypeId):(Builtin.len_ #[T] ty #[.map (some b)]).run Tryz.prog w=.ok (.int .i64 (L.length:Nat)) w:=by
 obtain⟨D,hD,hs,_⟩:=h;rw[hD.len hT ty,hs]
def dq (w:W8)(b r:Nat)(L:List (Th × Nat))(Lf:Th->Prop)(dF:Nat):Prop:=
 ∃ (D:DataW Value) (left:Lit->Bool),w.ranges Tryz.prog 88 jB b r L.length D left dF/\Maps.size D=L.length/\(L.map (·.1)).Nodup/\(∀ p∈L,zbj p.1) /\
  (∀ p∈L,∀ l,keyOf Tryz.prog 88 (thV p.1)=some l->Maps.has D l=true/\∀ z,D.atKey l z=.held (.int .i64 p.2)) /\
  (∀ l,Maps.has D l=true->∃ p∈L,keyOf Tryz.prog 88 (thV p.1)=some l) /\
  (∀ p∈L,∀ l,keyOf Tryz.prog 88 (thV p.1)=some l->(left l=true↔Lf p.1))
theorem dq.map {w:W8}{b r:Nat}{L:List (Th × Nat)}{Lf:Th->Prop}{dF:Nat}(h:dq w b r L Lf dF):jA w b L:=by
 obtain⟨D,left,h1,h2,h3,h4,h5,h6,_⟩:=h;exact⟨D,h1.owns,h2,h3,h4,h5,h6⟩
theorem dq.lt {w:W8}{b r:Nat}{L:List (Th × Nat)}{Lf:Th->Prop}{dF:Nat}(h:dq w b r L Lf dF):r<w.heap.size:=by
 obtain⟨D,left,h1,_⟩:=h;exact h1.lt
theorem dq.blocks {w w':W8}{b r:Nat}{L:List (Th × Nat)}{Lf:Th->Prop}{dF:Nat}(h:dq w b r L Lf dF)(hb:w'.heap[b]?=w.heap[b]?)(hr:w'.heap[r]?=w.heap[r]?):dq w' b r L Lf dF:=by
 obtain⟨D,left,⟨es,clock,since,seen,c0,h1,F,hs,hD,h2,rest⟩,h3⟩:=h;exact⟨D,left,⟨es,clock,since,seen,c0,hb.trans h1,F,hs,hD,hr.trans h2,rest⟩,h3⟩
theorem dq.iter {w:W8}{b r:Nat}{L:List (Th × Nat)}{Lf:Th->Prop}{dF:Nat}(h:dq w b r L Lf dF):∃ o:Obj,w.heap[r]?=some o/\o.isWalk=true:=by
 obtain⟨D,left,⟨es,clock,since,seen,c0,_,_,_,_,h2,_⟩,_⟩:=h;exact⟨_,h2,rfl⟩
section
variable (w:W8) {ops:Array Oper} {rest:List Oper} {o:Oper} {a:Act} {Q:Exit->Act->W8->Prop}
theorem zh8 (hg:o.guard=none)(m:Operand)(t:TypeId)(bV:o.op=Op.range t m)(ht:Tryz.prog.underlying t=some (.map 88 3))(b:Nat)(L:List (Th × Nat))
  (hm:a.eval m=.map (some b)) (aI:jA w b L)
  (hQ:∀ w',dq w' b w.heap.size L (λ _=>True) L.length->w.grownBy w' none->w'.heap.size=w.heap.size+1->wpList Tryz.prog ops Q rest (a.put o.dst (.pointer (some ⟨w.heap.size,0,none⟩))) w'):
  wpList Tryz.prog ops Q (o::rest) a w:=by
 obtain⟨D,hD,hs,hn,bX,ad,fj⟩:=aI;refine wpList_range_own w hg m t bV 88 3 zcq ht jB b L.length D hm hD λ w' h1 h2 im=>hQ w' ⟨D,_,by rw[<-hs] at h1 ⊢;exact h1,hs,hn,bX,ad,fj,λ p hp l hl=>?_⟩ h2 im
 exact⟨λ _=>trivial,λ _=>(ad p hp l hl).1⟩
theorem zkh (hg:o.guard=none)(it:Operand)(bV:o.op=Op.next it false)(b r:Nat)(L:List (Th × Nat))(Lf:Th->Prop)(dF:Nat)
  (CF:a.eval it=.pointer (some ⟨r,0,none⟩)) (h:dq w b r L Lf dF)
  (oM:(∀ p∈L,¬ Lf p.1)->wpList Tryz.prog ops Q rest (a.put o.dst (.tuple #[.bool false])) w)
  (oN:∀ (t:Th) (n:Nat) (w':W8) (cJ:Nat),(t,n)∈L->Lf t->dq w' b r L (λ x=>Lf x/\x≠t) cJ->cJ<dF->w.grownBy w' (some r)->w'.heap.size=w.heap.size ->
   (Instr.entry (.pointer (some ⟨r,0,none⟩))).run Tryz.prog w'=.ok (.tuple #[thV t,.int .i64 n]) w'->wpList Tryz.prog ops Q rest (a.put o.dst (.tuple #[.bool true,thV t,.int .i64 n])) w'):
  wpList Tryz.prog ops Q (o::rest) a w:=by
 obtain⟨D,left,h1,hs,hn,bX,ad,fj,kV⟩:=h;refine wpList_next_ranges w hg it bV 88 zcq jB (id:Value->Value) (id:Value->Value) (λ key kl _=>⟨key,rfl⟩) (λ v y _=>⟨v,rfl⟩) b r L.length D left dF CF h1
  (λ _ hl=>oM λ p hp hf=>?_) ?_
 ·obtain⟨l,hk⟩:=z8c (bX p hp);have:=(kV p hp l hk).2 hf;rw[hl] at this;cases this
 intro x c kl y w' cJ hkey aN hv gT jf bP Ep hsz oj;have ur:Maps.has D kl=true:=Maps.has_true_of_atKey gT;obtain⟨p,hp,dP⟩:=fj kl ur;have hx:x=thV p.1:=zcq.inj hkey dP;have hy:=zdq (v:=c) (d:=y.1) (ps:=y.2) hv;have hc:c=.int .i64 p.2:=by
  have e1:=gT (.held undef);rw[(ad p hp kl dP).2,hy] at e1;exact (DataW.held.inj e1).symm
 subst hx hc;refine oN p.1 p.2 w' cJ hp ((kV p hp kl dP).1 aN) ⟨D,_,jf,hs,hn,bX,ad,fj,λ q hq l hl=>?_⟩ bP Ep hsz oj;rw[Bool.and_eq_true,kV q hq l hl,Bool.not_eq_true'];refine and_congr_right λ _=>⟨λ hs e=>?_,λ bG=>Maps.sameKey_ne λ e=>bG (zfj (bX q hq) (bX p hp) (e ▸ hl) dP)⟩
 rw[e] at hl;have hl:=Option.some.inj (dP.symm.trans hl);rw[<-hl,WideAt.sameKey_self (zcq.key dP)] at hs
 cases hs
theorem zbn (hg:o.guard=none)(m x:Operand)(t:TypeId)(bV:o.op=Op.lookup t m x true)(ht:Tryz.prog.underlying t=some (.map 88 3))(b:Nat)(L:List (Th × Nat))
  (hm:a.eval m=.map (some b)) (aI:jA w b L) (th:Th) (hx:a.eval x=thV th) (nL:zbj th) (u:Value) (hu:(.int .i64 (((z7 L th).getD 0:Nat):Int))=u) (c:Bool) (hc:(z7 L th).isSome=c)
  (hQ:wpList Tryz.prog ops Q rest (a.put o.dst (.tuple #[u,.bool c])) w):
  wpList Tryz.prog ops Q (o::rest) a w:=by
 refine wpList_plain hg λ K' hK'=>?_
 unfold Oper.wp;simp[execOp,bV,hm,hx,aI.look nL ht,Result.andThen];rw[hu,hc];exact hK' _ _ hQ
theorem zu1 (hg:o.guard=none)(m x v:Operand)(t:TypeId)(bV:o.op=Op.mapUpdate t m x v)(ht:Tryz.prog.underlying t=some (.map 88 3))(b:Nat)(L:List (Th × Nat))
  (hm:a.eval m=.map (some b)) (aI:jA w b L) (hn:L.length<maxLen) (th:Th) (n:Nat) (hx:a.eval x=thV th) (hv:a.eval v=.int .i64 n) (nL:zbj th)
  (hQ:∀ w',jA w' b (zia L th n)->w.mapTurned w' b->wpList Tryz.prog ops Q rest (a.put o.dst undef) w'):
  wpList Tryz.prog ops Q (o::rest) a w:=by
 refine wpList_plain hg λ K' hK'=>?_
 obtain⟨w',fC,h1,h2⟩:=aI.put nL n hn ht;unfold Oper.wp;simp[execOp,bV,hm,hx,hv,fC,Result.andThen];exact hK' _ _ (hQ w' h1 h2)
end
end
end Go.Proofs.YtldkpahaocjdpaaGreat
