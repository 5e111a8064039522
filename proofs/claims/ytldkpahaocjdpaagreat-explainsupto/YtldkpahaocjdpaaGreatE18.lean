/-
  Things (a predicate and at most four names) as the program has them: arrays of five texts, the keys of maps. A map of things with a number each, as a list: what a look-up finds, what a store leaves, how many there are, and ranging over it.
-/
import Derived.Test.YtldkpahaocjdpaaGreatE16
import Derived.DeepKeys4
import Derived.WideKeyArr
import Derived.RangeFuncSeq
import Derived.BigRegion
set_option maxHeartbeats 16000000
set_option maxRecDepth 1000000
namespace Go.Proofs.YtldkpahaocjdpaaGreat
section
open Go.RowKit Go.Maps Go.ChangeMaps Go.WideMaps
abbrev Th:=B8 × List B8
abbrev Th.p (t:Th):B8:=t.1
abbrev Th.ts (t:Th):List B8:=t.2
def xW (l:List B8)(i:Nat):B8:=(l[i]?).getD ⟨#[]⟩
def zV (t:Th):V8:=[.string t.p,.string (xW t.ts 0),.string (xW t.ts 1),.string (xW t.ts 2),.string (xW t.ts 3)]
def thV (t:Th):Value:=.agg (zV t).toArray
structure zdu (t:Th):Prop where
 pd:t.p.size<=1000000000
 eJ:t.ts.length<=4
 sz:∀ x∈t.ts,x.size<=1000000000
 ne:∀ x∈t.ts,0<x.size
variable {t:Th}
theorem ybn (h:zdu t)(i:Nat):(xW t.ts i).size<=1000000000:=by
 unfold xW;rcases Nat.lt_or_ge i t.ts.length with hi | hi
 ·rw[List.getElem?_eq_getElem hi];exact h.sz _ (List.getElem_mem hi)
 ·rw[List.getElem?_eq_none hi];simp[ByteArray.size]
variable {i:Nat}
theorem zpu (h:zdu t)(hi:i<t.ts.length):0<(xW t.ts i).size:=by
 unfold xW;rw[List.getElem?_eq_getElem hi];exact h.ne _ (List.getElem_mem hi)
theorem zl9 {l:List B8}(hi:l.length<=i):(xW l i).size=0:=by
 unfold xW;rw[List.getElem?_eq_none hi];rfl
variable {a:Th}
theorem z5f {b:Th}(ha:zdu a)(hb:zdu b)(h:thV a=thV b):a=b:=by
 obtain⟨p,ts⟩:=a;obtain⟨q,us⟩:=b;simp only[thV,zV,Value.agg.injEq,Array.mk.injEq,List.cons.injEq,Value.string.injEq,and_true] at h;obtain⟨hp,h0,h1,h2,h3⟩:=h;subst hp;have hn:∀ i,i<4->xW ts i=xW us i:=λ i hi=>by
  match i,hi with
  | 0,_=>exact h0
  | 1,_=>exact h1
  | 2,_=>exact h2
  | 3,_=>exact h3
 have hf:ts.length<=4:=ha.eJ;have hg:us.length<=4:=hb.eJ;have hl:ts.length=us.length:=by
  rcases Nat.lt_trichotomy ts.length us.length with h | h | h
  ·have e:=hn ts.length (by omega);have p1:0<(xW us ts.length).size:=zpu hb h;have p2:=zl9 (l:=ts) L9;rw[e] at p2;omega
  ·exact h
  ·have e:=hn us.length (by omega);have p1:0<(xW ts us.length).size:=zpu ha h;have p2:=zl9 (l:=us) L9;rw[<-e] at p2;omega
 congr 1
 refine List.ext_getElem hl λ i h1 h2=>?_
 have:=hn i (by omega);unfold xW at this;rw[List.getElem?_eq_getElem h1,List.getElem?_eq_getElem h2] at this;exact this
theorem zs8:ArrKey Tryz.prog 88 9 5:=⟨Tryz.underlying88,by kernel_rfl,by kernel_rfl,by kernel_rfl⟩
theorem yei:KeyLaw Tryz.prog 88:=zs8.law
theorem zdt:Keyed Tryz.prog 88:=Keyed.of_law yei
theorem zxi:∃ m,Tryz.prog.types.size=m+1:=⟨Tryz.prog.types.size-1,by have:0<Tryz.prog.types.size:=of_decide_eq_true (by kernel_rfl);omega⟩
theorem z80 (h:zdu t):∃ l,keyOf Tryz.prog 88 (thV t)=some l:=by
 have Yk:=zs8.keyType zxi;obtain⟨m,hm⟩:=zxi;have s0:t.p.size<=maxLen:=by have:=h.pd;unfold maxLen;omega
 have s1:∀ i,(xW t.ts i).size<=maxLen:=λ i=>by have:=ybn h i;unfold maxLen;omega
 unfold keyOf;simp only[zs8.hu];rw[if_pos (by simp[Yk,Value.formed,zs8.hu,zs8.size,thV,zV]),hm];unfold Program.keyLits;simp only[zs8.hu,thV,Value.cells];rw[if_pos (by rw[zs8.size];rfl),show List.range 5=[0,1,2,3,4] from rfl,List.mapM_cons,List.mapM_cons,List.mapM_cons,List.mapM_cons,List.mapM_cons,List.mapM_nil];simp[zs8.one,Program.keyLits,zV,Tryz.underlying9,s0,s1]
def yS (L:List (Th × Nat))(t:Th):Option Nat:=(L.find? λ p=>decide (p.1=t)).map (·.2)
def zjw (L:List (Th × Nat))(t:Th)(h:Nat):List (Th × Nat):=if (yS L t).isSome then L.map (λ p=>if p.1=t then (t,h) else p) else L++[(t,h)]
variable {n:Nat} {L:List (Th × Nat)}
theorem jV (h:yS L t=some n):(t,n)∈L:=by
 unfold yS at h;obtain⟨p,hp,rfl⟩:=Option.map_eq_some_iff.1 h;have h1:=List.mem_of_find?_eq_some hp;have h2:=List.find?_some hp;rw[<-of_decide_eq_true h2];exact h1
theorem qV (h:yS L t=none):∀ n,(t,n)∉L:=by
 intro n hn;unfold yS at h;rw[Option.map_eq_none_iff,List.find?_eq_none] at h;exact h _ hn (decide_eq_true rfl)
theorem za5 (hd:(L.map (·.1)).Nodup)(h:(t,n)∈L):yS L t=some n:=by
 cases hl:yS L t with
 | none=>exact absurd h (qV hl n)
 | some m=>
  have h1:=jV hl;have:∀ (L:List (Th × Nat)),(L.map (·.1)).Nodup->(t,n)∈L->(t,m)∈L->m=n:=by
   intro L
   induction L with
   | nil=>intro _ h;cases h
   | cons x r ih=>
    intro hd h1 h2;rw[List.map_cons,List.nodup_cons] at hd;rcases List.mem_cons.1 h1 with e1 | e1 <;> rcases List.mem_cons.1 h2 with e2 | e2
    ·have:=e1.trans e2.symm;injection this with _ this;exact this.symm
    ·exact absurd (List.mem_map_of_mem (f:=Prod.fst) e2) (by rw[<-e1] at hd;exact hd.1)
    ·exact absurd (List.mem_map_of_mem (f:=Prod.fst) e1) (by rw[<-e2] at hd;exact hd.1)
    ·exact ih hd.2 e1 e2
  rw[this L hd h h1]
def qR (w:W8)(b:Nat)(L:List (Th × Nat)):Prop:=
 ∃ D:DataW Value,w.ownsMap Tryz.prog 88 jP b L.length D/\Maps.size D=L.length/\(L.map (·.1)).Nodup/\(∀ p∈L,zdu p.1) /\
  (∀ p∈L,∀ l,keyOf Tryz.prog 88 (thV p.1)=some l->Maps.has D l=true/\∀ z,D.atKey l z=.held (.int .i64 p.2)) /\
  (∀ l,Maps.has D l=true->∃ p∈L,keyOf Tryz.prog 88 (thV p.1)=some l)
theorem qR.made (w:W8):qR (w.alloc (.map #[] 0)) w.heap.size []:=
 ⟨.map [],World.ownsMap_made w _ _ jP,rfl,by simp,by simp,by simp,λ l h=>by cases h⟩
variable {b:Nat} {w:W8}
theorem qR.lt (h:qR w b L):b<w.heap.size:=by obtain⟨D,hD,_⟩:=h;exact hD.lt
theorem qR.ok (h:qR w b L):∀ p∈L,zdu p.1:=by obtain⟨D,_,_,_,h,_⟩:=h;exact h
theorem qR.nodup (h:qR w b L):(L.map (·.1)).Nodup:=by obtain⟨D,_,_,h,_⟩:=h;exact h
theorem qR.kept {w w':W8}{b:Nat}{L:List (Th × Nat)}{row:Option Nat}(h:qR w b L)(hg:w.grownBy w' row)(hr:some b≠row):qR w' b L:=by
 obtain⟨D,hD,h⟩:=h;exact⟨D,hD.kept hg hr,h⟩
variable {w':W8}
theorem qR.block (h:qR w b L)(hb:w'.heap[b]?=w.heap[b]?):qR w' b L:=by
 obtain⟨D,⟨es,clock,h1,h2⟩,h3⟩:=h;exact⟨D,⟨es,clock,hb.trans h1,h2⟩,h3⟩
theorem qR.alloc (h:qR w b L)(o:Obj):qR (w.alloc o) b L:=h.kept (World.grownBy_alloc w o none) (by simp)
theorem qR.isMap (h:qR w b L):∃ es clock,w.heap[b]?=some (.map es clock):=by
 obtain⟨D,⟨es,clock,h1,_⟩,_⟩:=h;exact⟨es,clock,h1⟩
theorem zfu {b:Th}{l:Lit}(ha:zdu a)(hb:zdu b)(h1:keyOf Tryz.prog 88 (thV a)=some l)(h2:keyOf Tryz.prog 88 (thV b)=some l):a=b:=z5f ha hb (zdt.inj h1 h2)
theorem qR.look (h:qR w b L)(ht:zdu t){T:TypeId}(hT:Tryz.prog.underlying T=some (.map 88 3)):
  (Instr.lookup T (.map (some b)) (thV t) true).run Tryz.prog w=.ok (.tuple #[.int .i64 (((yS L t).getD 0:Nat):Int),.bool (yS L t).isSome]) w:=by
 obtain⟨D,hD,hs,hn,bR,aS,ib⟩:=h;obtain⟨l,hl⟩:=z80 ht;obtain⟨v,ps,kU,hv⟩:=hD.look_ok zdt hT (z:=.int .i64 0) (by kernel_rfl) (zd:=.held (.int .i64 0)) (zp:=[]) rfl hl;have h1:=zf8 hv
 cases hk:yS L t with
 | some n=>
  obtain⟨h2,h3⟩:=aS _ (jV hk) l hl;rw[h3] at h1;have h1:=DataW.held.inj h1;subst h1;rw[h2] at kU;exact kU
 | none=>
  have h2:Maps.has D l=false:=by
   cases hh:Maps.has D l with
   | false=>rfl
   | true=>
    obtain⟨p,hp,bt⟩:=ib l hh;have e:=zfu (bR p hp) ht bt hl;exact absurd (show (t,p.2)∈L by rw[<-e];exact hp) (qV hk _)
  rw[Maps.atKey_of_not_has h2] at h1;have h1:=DataW.held.inj h1;subst h1;rw[h2] at kU;exact kU
theorem zml (L:List (Th × Nat))(t:Th)(n:Nat):(zjw L t n).length=if (yS L t).isSome then L.length else L.length+1:=by
 unfold zjw
 split <;> simp
theorem zkn {p:Th × Nat}(h:p∈zjw L t n):p=(t,n)\/(p∈L/\p.1≠t):=by
 unfold zjw at h
 split at h
 ·obtain⟨q,hq,rfl⟩:=List.mem_map.1 h
  split
  ·exact .inl rfl
  ·rename_i bF;exact .inr ⟨hq,bF⟩
 ·rename_i bF;rcases List.mem_append.1 h with h | h
  ·refine .inr ⟨h,λ e=>?_⟩;have aX:yS L t=none:=(by simpa using bF);exact qV aX p.2 (by rw[<-e];exact h)
  ·exact .inl (List.mem_singleton.1 h)
theorem RN (L:List (Th × Nat))(t:Th)(n:Nat):(t,n)∈zjw L t n:=by
 unfold zjw
 split
 ·rename_i h;obtain⟨m,hm⟩:=Option.isSome_iff_exists.1 h;exact List.mem_map.2 ⟨_,jV hm,by simp⟩
 ·simp
theorem zgv {p:Th × Nat}(h:p∈L)(bF:p.1≠t):p∈zjw L t n:=by
 unfold zjw
 split
 ·exact List.mem_map.2 ⟨p,h,by simp[bF]⟩
 ·exact List.mem_append_left _ h
theorem z4o:(zjw L t n).map (·.1)=if (yS L t).isSome then L.map (·.1) else L.map (·.1)++[t]:=by
 unfold zjw
 split
 ·rw[List.map_map];refine List.map_congr_left λ p _=>?_
  simp only[Function.comp]
  split
  ·rename_i e;exact e.symm
  ·rfl
 ·simp
theorem Ml (h:(L.map (·.1)).Nodup):((zjw L t n).map (·.1)).Nodup:=by
 rw[z4o]
 split
 ·exact h
 ·rename_i bF;refine List.nodup_append.2 ⟨h,by simp,λ a ha b hb=>?_⟩;rw[List.mem_singleton.1 hb];rintro rfl;obtain⟨p,hp,e⟩:=List.mem_map.1 ha;have aX:yS L a=none:=by simpa using bF
  exact qV aX p.2 (by rw[<-e];exact hp)
theorem zpv {P:Program}{K:TypeId}{D:DataW Value}(h:w.ownsMap P K jP b n D):w.ownsMap P K jP b (Maps.size D) D:=by
 obtain⟨es,clock,hb,F,hs,rfl⟩:=h;exact⟨es,clock,hb,F,by simp[Maps.size,length_sorted],rfl⟩
theorem qR.put {w:W8}{b:Nat}{L:List (Th × Nat)}(h:qR w b L){t:Th}(ht:zdu t)(n:Nat)(hL:L.length<maxLen){T:TypeId}(hT:Tryz.prog.underlying T=some (.map 88 3)):
  ∃ w',(Instr.mapUpdate T (.map (some b)) (thV t) (.int .i64 n)).run Tryz.prog w=.ok () w'/\qR w' b (zjw L t n)/\w.mapTurned w' b:=by
 obtain⟨D,hD,hs,hn,bR,aS,ib⟩:=h;obtain⟨l,hl⟩:=z80 ht;obtain⟨w',kU,ay,LA⟩:=hD.store zdt hT hL hl (val:=.int .i64 n) (d:=.held (.int .i64 n)) (ps:=[]) rfl;have dF:=zdt.key hl;have F3:Maps.has D l=(yS L t).isSome:=by
  cases hk:yS L t with
  | some m=>exact (aS _ (jV hk) l hl).1
  | none=>
   cases hh:Maps.has D l with
   | false=>rfl
   | true=>
    obtain⟨p,hp,bt⟩:=ib l hh;have e:=zfu (bR p hp) ht bt hl;exact absurd (show (t,p.2)∈L by rw[<-e];exact hp) (qV hk _)
 have bj:Maps.size (D.put l (.held (.int .i64 n)))=(zjw L t n).length:=by
  rw[Maps.size_put (hD.tidy zdt),F3,zml,hs]
 refine⟨w',kU,⟨_,?_,bj,Ml hn,λ p hp=>?_,λ p hp l' nU=>?_,λ l' nU=>?_⟩,LA⟩
 ·rw[<-bj];exact zpv ay
 ·rcases zkn hp with rfl | ⟨hp,_⟩
  ·exact ht
  ·exact bR p hp
 ·rcases zkn hp with rfl | ⟨hp,bF⟩
  ·have e:l'=l:=Option.some.inj (nU.symm.trans hl);subst e;exact⟨Maps.has_put_same hD.isMap dF _,λ z=>Maps.atKey_put_same hD.isMap dF _ _⟩
  ·have Gp:l'≠l:=λ e=>bF (zfu (bR p hp) ht (e ▸ nU) hl)
   obtain⟨h1,h2⟩:=aS p hp l' nU;exact⟨(Maps.has_put_other Gp _).trans h1,λ z=>(Maps.atKey_put_other Gp _ _).trans (h2 z)⟩
 ·by_cases e:l'=l
  ·subst e;exact⟨_,RN L t n,hl⟩
  ·rw[Maps.has_put_other e] at nU;obtain⟨p,hp,bt⟩:=ib l' nU;exact⟨p,zgv hp (λ e'=>e (Option.some.inj ((e' ▸ bt).symm.trans hl))),bt⟩
theorem qR.len {w:W8}{b:Nat}{L:List (Th × Nat)}(h:qR w b L){T:TypeId}(hT:Tryz.prog.underlying T=some (.map 88 3))(ty:TypeId):(Builtin.len_ #[T] ty #[.map (some b)]).run Tryz.prog w=.ok (.int .i64 (L.length:Nat)) w:=by
 obtain⟨D,hD,hs,_⟩:=h;rw[hD.len hT ty,hs]
def so (w:W8)(b r:Nat)(L:List (Th × Nat))(Lf:Th->Prop)(eC:Nat):Prop:=
 ∃ (D:DataW Value) (left:Lit->Bool),w.ranges Tryz.prog 88 jP b r L.length D left eC/\Maps.size D=L.length/\(L.map (·.1)).Nodup/\(∀ p∈L,zdu p.1) /\
  (∀ p∈L,∀ l,keyOf Tryz.prog 88 (thV p.1)=some l->Maps.has D l=true/\∀ z,D.atKey l z=.held (.int .i64 p.2)) /\
  (∀ l,Maps.has D l=true->∃ p∈L,keyOf Tryz.prog 88 (thV p.1)=some l) /\
  (∀ p∈L,∀ l,keyOf Tryz.prog 88 (thV p.1)=some l->(left l=true↔Lf p.1))
variable {eC r:Nat} {Lf:Th->Prop}
theorem so.map (h:so w b r L Lf eC):qR w b L:=by
 obtain⟨D,left,h1,h2,h3,h4,h5,h6,_⟩:=h;exact⟨D,h1.owns,h2,h3,h4,h5,h6⟩
theorem so.lt {w:W8}{b r:Nat}{L:List (Th × Nat)}{Lf:Th->Prop}{eC:Nat}(h:so w b r L Lf eC):r<w.heap.size:=by
 obtain⟨D,left,h1,_⟩:=h;exact h1.lt
theorem so.blocks (h:so w b r L Lf eC)(hb:w'.heap[b]?=w.heap[b]?)(hr:w'.heap[r]?=w.heap[r]?):so w' b r L Lf eC:=by
 obtain⟨D,left,⟨es,clock,since,seen,c0,h1,F,hs,hD,h2,rest⟩,h3⟩:=h;exact⟨D,left,⟨es,clock,since,seen,c0,hb.trans h1,F,hs,hD,hr.trans h2,rest⟩,h3⟩
theorem so.iter (h:so w b r L Lf eC):∃ o:Obj,w.heap[r]?=some o/\o.isWalk=true:=by
 obtain⟨D,left,⟨es,clock,since,seen,c0,_,_,_,_,h2,_⟩,_⟩:=h;exact⟨_,h2,rfl⟩
section
variable (w:W8) {ops:Array Oper} {rest:List Oper} {o:Oper} {a:Act} {Q:Exit->Act->W8->Prop}
theorem znb (hg:o.guard=none)(m:Operand)(t:TypeId)(pE:o.op=Op.range t m)(ht:Tryz.prog.underlying t=some (.map 88 3))(b:Nat)(L:List (Th × Nat))
  (hm:a.eval m=.map (some b)) (ay:qR w b L)
  (hQ:∀ w',so w' b w.heap.size L (λ _=>True) L.length->w.grownBy w' none->w'.heap.size=w.heap.size+1->wpList Tryz.prog ops Q rest (a.put o.dst (.pointer (some ⟨w.heap.size,0,none⟩))) w'):
  wpList Tryz.prog ops Q (o::rest) a w:=by
 obtain⟨D,hD,hs,hn,bR,aS,ib⟩:=ay;refine wpList_range_own w hg m t pE 88 3 zdt ht jP b L.length D hm hD λ w' h1 h2 mh=>hQ w' ⟨D,_,by rw[<-hs] at h1 ⊢;exact h1,hs,hn,bR,aS,ib,λ p hp l hl=>?_⟩ h2 mh
 exact⟨λ _=>trivial,λ _=>(aS p hp l hl).1⟩
theorem zqi (hg:o.guard=none)(it:Operand)(pE:o.op=Op.next it false)(b r:Nat)(L:List (Th × Nat))(Lf:Th->Prop)(eC:Nat)
  (P1:a.eval it=.pointer (some ⟨r,0,none⟩)) (h:so w b r L Lf eC)
  (ze:(∀ p∈L,¬ Lf p.1)->wpList Tryz.prog ops Q rest (a.put o.dst (.tuple #[.bool false])) w)
  (zg:∀ (t:Th) (n:Nat) (w':W8) (oA:Nat),(t,n)∈L->Lf t->so w' b r L (λ x=>Lf x/\x≠t) oA->oA<eC->w.grownBy w' (some r)->w'.heap.size=w.heap.size ->
   (Instr.entry (.pointer (some ⟨r,0,none⟩))).run Tryz.prog w'=.ok (.tuple #[thV t,.int .i64 n]) w'->wpList Tryz.prog ops Q rest (a.put o.dst (.tuple #[.bool true,thV t,.int .i64 n])) w'):
  wpList Tryz.prog ops Q (o::rest) a w:=by
 obtain⟨D,left,h1,hs,hn,bR,aS,ib,qx⟩:=h;refine wpList_next_ranges w hg it pE 88 zdt jP (id:Value->Value) (id:Value->Value) (λ key kl _=>⟨key,rfl⟩) (λ v y _=>⟨v,rfl⟩) b r L.length D left eC P1 h1
  (λ _ hl=>ze λ p hp hf=>?_) ?_
 ·obtain⟨l,hk⟩:=z80 (bR p hp);have:=(qx p hp l hk).2 hf;rw[hl] at this;cases this
 intro x c kl y w' oA hkey aF hv du oL aH mP bj xh;have F3:Maps.has D kl=true:=Maps.has_true_of_atKey du;obtain⟨p,hp,bt⟩:=ib kl F3;have hx:x=thV p.1:=zdt.inj hkey bt;have hy:=zf8 (v:=c) (d:=y.1) (ps:=y.2) hv;have hc:c=.int .i64 p.2:=by
  have e1:=du (.held undef);rw[(aS p hp kl bt).2,hy] at e1;exact (DataW.held.inj e1).symm
 subst hx hc;refine zg p.1 p.2 w' oA hp ((qx p hp kl bt).1 aF) ⟨D,_,oL,hs,hn,bR,aS,ib,λ q hq l hl=>?_⟩ aH mP bj xh;rw[Bool.and_eq_true,qx q hq l hl,Bool.not_eq_true'];refine and_congr_right λ _=>⟨λ hs e=>?_,λ bF=>Maps.sameKey_ne λ e=>bF (zfu (bR q hq) (bR p hp) (e ▸ hl) bt)⟩
 rw[e] at hl;have hl:=Option.some.inj (bt.symm.trans hl);rw[<-hl,WideAt.sameKey_self (zdt.key bt)] at hs
 cases hs
theorem z50 (hg:o.guard=none)(m x v:Operand)(t:TypeId)(pE:o.op=Op.mapUpdate t m x v)(ht:Tryz.prog.underlying t=some (.map 88 3))(b:Nat)(L:List (Th × Nat))
  (hm:a.eval m=.map (some b)) (ay:qR w b L) (hn:L.length<maxLen) (th:Th) (n:Nat) (hx:a.eval x=thV th) (hv:a.eval v=.int .i64 n) (oO:zdu th)
  (hQ:∀ w',qR w' b (zjw L th n)->w.mapTurned w' b->wpList Tryz.prog ops Q rest (a.put o.dst undef) w'):
  wpList Tryz.prog ops Q (o::rest) a w:=by
 refine wpList_plain hg λ K' Ie=>?_
 obtain⟨w',kU,h1,h2⟩:=ay.put oO n hn ht;unfold Oper.wp;simp[execOp,pE,hm,hx,hv,kU,Result.andThen];exact Ie _ _ (hQ w' h1 h2)
end
end
section
open Go.RowKit
abbrev yR:=List (B8 × B8)
abbrev zdy:=Bool × B8
def pAt:yR->B8->Option B8
 | [],_=>none
 | x::r,n=>if x.1.toList==n.toList then some x.2 else pAt r n
def oj (e:yR)(n:B8):B8:=(pAt e n).getD { data:=#[] }
variable {e:yR}
theorem z7w {k:Nat}{n:B8}(h:k<e.length):pAt (e.drop k) n=if e[k].1.toList==n.toList then some e[k].2 else pAt (e.drop (k+1)) n:=by
 rw[List.drop_eq_getElem_cons h];rfl
def eAt (e:yR)(i:Nat):B8 × B8:=(e[i]?).getD ({ data:=#[] },{ data:=#[] })
def yQ (e:yR):V8:=
 [.int .i64 (e.length:Nat),.string (eAt e 0).1,.string (eAt e 0).2,.string (eAt e 1).1,.string (eAt e 1).2,.string (eAt e 2).1,.string (eAt e 2).2,.string (eAt e 3).1,.string (eAt e 3).2,.string (eAt e 4).1,.string (eAt e 4).2,.string (eAt e 5).1,.string (eAt e 5).2,
 .string (eAt e 6).1,.string (eAt e 6).2,.string (eAt e 7).1,.string (eAt e 7).2,.string (eAt e 8).1,.string (eAt e 8).2,.string (eAt e 9).1,.string (eAt e 9).2,.string (eAt e 10).1,.string (eAt e 10).2,.string (eAt e 11).1,.string (eAt e 11).2]
def zav (e:yR):Value:=.agg (yQ e).toArray
variable {i:Nat}
theorem zaz (e:yR)(h:i<12):(yQ e)[1+i*2]?=some (.string (eAt e i).1):=by
 match i,h with
 | 0,_ | 1,_ | 2,_ | 3,_ | 4,_ | 5,_ | 6,_ | 7,_ | 8,_ | 9,_ | 10,_ | 11,_=>rfl
theorem zad (e:yR)(h:i<12):(yQ e)[1+i*2+1]?=some (.string (eAt e i).2):=by
 match i,h with
 | 0,_ | 1,_ | 2,_ | 3,_ | 4,_ | 5,_ | 6,_ | 7,_ | 8,_ | 9,_ | 10,_ | 11,_=>rfl
theorem ydb (h:i<e.length):eAt e i=e[i]:=by unfold eAt;rw[List.getElem?_eq_getElem h];rfl
def z89 (w:W8)(b:Nat)(e:yR):Prop:=∀ j v,(yQ e)[j]?=some v->w.cell? ⟨b,j,none⟩=some v
theorem zsk (w:W8)(b:Nat)(e:yR)(v:B8)(h:z89 w b e)(hl:e.length<=12):
  Calls Tryz.prog 201 #[.pointer (some ⟨b,0,none⟩),.string v] w λ en w'=>en=.returned (.tuple #[.string (oj e v),.bool (pAt e v).isSome])/\w'=w:=by
 have c0:=h 0 _ rfl;have HB:=zC h;clear h;go_enter Tryz.func201,Tryz.ntmps201;go_wp2_with fail
 go_loop [11] (λ i=>∃ k:Nat,k<=e.length/\i=.int .i64 k/\pAt (e.drop k) v=pAt e v) (λ i=>e.length-(intOf i).toNat)
 exact⟨0,Nat.zero_le _,rfl,rfl⟩
 case round=>
  obtain⟨k,hk,rfl,aE⟩:=hrel;have HF:=zC aE;clear aE
  by_cases aF:k<e.length
  ·have d1:=zA HB _ _ (zaz e (i:=k) (by omega));have d2:=zA HB _ _ (zad e (i:=k) (by omega));rw[ydb aF] at d1 d2;have HS:=zC (z7w (n:=v) aF);have kP:(k:Int)<e.length:=(by omega);have lh:(k:Int)<12:=by omega
   cases hq:e[k].1.toList==v.toList with
   | true=>
    have HE:=zC (show pAt e v=some e[k].2 by rw[<-zA HF,zA HS,if_pos hq]);go_wp2_with fail
    go_ret2
    exact⟨by unfold oj;rw[zA HE];rfl,rfl⟩
   | false=>
    have HE:=zC (show pAt (e.drop (k+1)) v=pAt e v by rw[<-zA HF,zA HS,if_neg (by rw[hq];decide)]);go_wp2_with fail
    go_round
    case rel=>exact⟨k+1,by omega,by go_num,zA HE⟩
    case measure=>simp[intOf];omega
  ·have HE:=zC (show pAt e v=none by rw[<-zA HF,List.drop_of_length_le (by omega)];rfl);go_wp2_with fail
   go_ret2
   exact⟨by unfold oj;rw[zA HE];rfl,rfl⟩
end
section
open Go.RowKit
variable {v:Value} {j:Nat}
theorem zk3 (e:yR)(h:(yQ e)[j]?=some v):(j=0/\v=.int .i64 (e.length:Nat))\/∃ i,i<12/\((j=1+i*2/\v=.string (eAt e i).1)\/(j=1+i*2+1/\v=.string (eAt e i).2)):=by
 have hj:j<25:=(List.getElem?_eq_some_iff.1 h).1;rcases Nat.eq_zero_or_pos j with rfl | hp
 ·left;refine⟨rfl,?_⟩;exact (Option.some.inj h).symm
 ·right
  refine⟨(j-1)/2,by omega,?_⟩;rcases Nat.mod_two_eq_zero_or_one (j-1) with hm | hm
  ·left
   have e1:j=1+(j-1)/2*2:=(by omega);refine⟨e1,?_⟩;have:=zaz e (i:=(j-1)/2) (by omega);rw[<-e1] at this;exact Option.some.inj (h.symm.trans this)
  ·right
   have e1:j=1+(j-1)/2*2+1:=(by omega);refine⟨e1,?_⟩;have:=zad e (i:=(j-1)/2) (by omega);rw[<-e1] at this;exact Option.some.inj (h.symm.trans this)
theorem zv3 (e:yR)(x:B8 × B8)(i:Nat):eAt (e++[x]) i=if i=e.length then x else eAt e i:=by
 unfold eAt;rw[List.getElem?_append]
 split
 ·rename_i h;rw[if_neg (by omega)]
 ·rename_i h
  split
  ·rename_i h2;subst h2;simp
  ·rename_i h2;rw[List.getElem?_eq_none (by simp;omega),List.getElem?_eq_none (by omega)]
structure j0 (w:W8)(b:Nat)(e:yR):Prop where
 cells:z89 w b e
 arr:∃ cs,w.heap[b]?=some (.cells cs 135 (0,0))/\cs.size=25
variable {e:yR} {b:Nat} {w:W8}
theorem j0.fz (h:j0 w b e)(j:Nat):w.frozen? ⟨b,j,none⟩=false:=by
 obtain⟨cs,h1,_⟩:=h.arr;simp[World.frozen?,h1]
theorem j0.lt (h:j0 w b e):b<w.heap.size:=by
 obtain⟨cs,h1,_⟩:=h.arr;exact (Array.getElem?_eq_some_iff.1 h1).1
theorem j0.whole (h:j0 w b e):w.heap[b]?=some (.cells (yQ e).toArray 135 (0,0)):=by
 obtain⟨cs,h1,h2⟩:=h.arr;have:cs=(yQ e).toArray:=by
  apply Array.ext
  ·rw[h2];rfl
  ·intro j hj vg;have:=h.cells j _ (by rw[<-List.getElem?_toArray];exact Array.getElem?_eq_getElem vg);rw[cell_of_row w b j cs _ _ h1,Array.getElem?_eq_getElem hj] at this;exact Option.some.inj this
 rw[h1,this]
theorem j0.of (h:w.heap[b]?=some (.cells (yQ e).toArray 135 (0,0))):j0 w b e:=
 ⟨λ j v hj=>by rw[cell_of_row w b j _ _ _ h,List.getElem?_toArray];exact hj,_,h,rfl⟩
theorem j0.block {w':W8}(h:j0 w b e)(hb:w'.heap[b]?=w.heap[b]?):j0 w' b e:=j0.of (hb.trans h.whole)
theorem j0.drew (h:j0 w b e):j0 w.drew b e:=⟨h.cells,h.arr⟩
theorem ztt {T:TypeId}{n:Nat}(h:∃ cs,w.heap[b]?=some (.cells cs T (0,0))/\cs.size=n):∃ cs,(w.setCell ⟨b,j,none⟩ v).heap[b]?=some (.cells cs T (0,0))/\cs.size=n:=by
 obtain⟨cs,h1,h2⟩:=h;rw[setCell_eq_setRow w b j cs T (0,0) v h1];exact⟨_,setRow_heap w b cs _ T _ h1,by simpa using h2⟩
def ku (w:W8)(b k:Nat)(v n:B8):W8:=((w.setCell ⟨b,1+k*2,none⟩ (.string v)).setCell ⟨b,1+k*2+1,none⟩ (.string n)).setCell ⟨b,0,none⟩ (.int .i64 ((k:Int)+1))
theorem j0.set (h:j0 w b e)(hl:e.length<12)(v n:B8):j0 (ku w b e.length v n) b (e++[(v,n)]):=by
 refine⟨λ j x hj=>?_,ztt (ztt (ztt h.arr))⟩;have c0:=h.cells 0 _ rfl;have cv:=h.cells _ _ (zaz e hl);have cn:=h.cells _ _ (zad e hl);unfold ku;rcases zk3 _ hj with⟨rfl,rfl⟩ | ⟨i,hi,⟨rfl,rfl⟩ | ⟨rfl,rfl⟩⟩
 ·rw[World.cell?_setCell_same' _ _ _ (by rw[World.cell?_setCell_other _ _ _ _ (by intro e;injection e;omega),World.cell?_setCell_other _ _ _ _ (by intro e;injection e;omega),c0];rfl)];simp
 ·rw[World.cell?_setCell_other _ _ _ _ (by intro e;injection e;omega),World.cell?_setCell_other _ _ _ _ (by intro e;injection e;omega),zv3]
  by_cases hk:i=e.length
  ·subst hk;rw[World.cell?_setCell_same' _ _ _ (by rw[cv];rfl),if_pos rfl]
  ·rw[World.cell?_setCell_other _ _ _ _ (by intro e;injection e;omega),if_neg hk];exact h.cells _ _ (zaz e hi)
 ·rw[World.cell?_setCell_other _ _ _ _ (by intro e;injection e;omega),zv3]
  by_cases hk:i=e.length
  ·subst hk;rw[World.cell?_setCell_same' _ _ _ (by rw[World.cell?_setCell_other _ _ _ _ (by intro e;injection e;omega),cn];rfl),if_pos rfl]
  ·rw[World.cell?_setCell_other _ _ _ _ (by intro e;injection e;omega),World.cell?_setCell_other _ _ _ _ (by intro e;injection e;omega),if_neg hk];exact h.cells _ _ (zad e hi)
theorem zK.ku {B:List Nat}{a:W8}(h:zK B a w)(hp:b∈B\/a.heap.size<=b)(k:Nat)(v n:B8):zK B a (Go.Proofs.YtldkpahaocjdpaaGreat.ku w b k v n):=
 ((h.setCell (p:=⟨b,1+k*2,none⟩) hp _).setCell (p:=⟨b,1+k*2+1,none⟩) hp _).setCell (p:=⟨b,0,none⟩) hp _
def pmB (e:yR)(v n:B8):Option yR:=
 match pAt e v with
 | some x=>if x.toList==n.toList then some e else none
 | none=>some (e++[(v,n)])
def zc4 (w:W8)(b:Nat)(r:Option yR)(en:Ending)(w':W8):Prop:=zK [b] w w'/\en=.returned (.bool r.isSome)/\∀ e',r=some e'->j0 w' b e'
theorem z39 (w:W8)(b:Nat)(e:yR)(v n:B8)(h:j0 w b e)(hl:e.length<=12)(hr:pAt e v=none->e.length<12):
  Calls Tryz.prog 147 #[.pointer (some ⟨b,0,none⟩),.string v,.string n] w (zc4 w b (pmB e v n)):=by
 have HN:=zC (zsk w b e v h.cells hl);have HP:=zC (show zc4 w b (pmB e v n)=zc4 w b (match pAt e v with | some x=>if x.toList==n.toList then some e else none | none=>some (e++[(v,n)])) from rfl);have c0:=h.cells 0 _ rfl;have f0:=h.fz 0;have HB:=zC h;have hb:=h.lt;clear h
 cases hp:pAt e v with
 | some x=>
  have HX:=zC (show oj e v=x by unfold oj;rw[hp];rfl);rw[hp] at HP HN;clear hr;have Jo:=zC hp;clear hp;go_enter Tryz.func147,Tryz.ntmps147;go_wp2_with (go_at_call 201;refine (zA HN).mono ?_;rintro en w1 ⟨rfl,dY⟩;subst dY);rw[zA HX];go_wp2_with fail;go_ret;rw[zA HP];refine⟨zK.refl _ _,?_,λ e' ma=>?_⟩
  ·split <;> rename_i hq <;> simp[hq]
  ·split at ma
   ·cases ma;exact zA HB
   ·cases ma
 | none=>
  have aH:=hr hp;have HX:=zC (show oj e v={ data:=#[] } by unfold oj;rw[hp];rfl);rw[hp] at HP HN;clear hr;have Jo:=zC hp;clear hp;have cv:=(zA HB).cells _ _ (zaz e aH);have cn:=(zA HB).cells _ _ (zad e aH);have fv:=(zA HB).fz (1+e.length*2);have fn:=(zA HB).fz (1+e.length*2+1);have lh:(e.length:Int)<12:=by omega
  go_enter Tryz.func147,Tryz.ntmps147;go_wp2_with (go_at_call 201;refine (zA HN).mono ?_;rintro en w1 ⟨rfl,dY⟩;subst dY)
  go_region
  go_wp2_with fail;go_ret;rw[zA HP];exact⟨((zK.refl [b] w1).ku (b:=b) (by simp) e.length v n).drew,rfl,λ e' ma=>by cases ma;exact ((zA HB).set aH v n).drew⟩
end
section
open Go.RowKit
theorem zkz (W:W8)(v:Value):(Instr.typeAssert (.iface 130 v) 191 130 true).run Tryz.prog W=.ok (.tuple #[v,.bool true]) W:=by kernel_rfl
theorem zi1 (W:W8)(v:Value):(Instr.typeAssert (.iface 193 v) 191 193 true).run Tryz.prog W=.ok (.tuple #[v,.bool true]) W:=by kernel_rfl
theorem zky (W:W8)(v:Value):(Instr.typeAssert (.iface 130 v) 191 193 true).run Tryz.prog W=.ok (.tuple #[.string { data:=#[] },.bool false]) W:=by kernel_rfl
def zc3 (t:zdy):Value:=.iface (if t.1 then 130 else 193) (.string t.2)
def pmT (e:yR)(t:zdy)(n:B8):Option yR:=if t.1 then pmB e t.2 n else if t.2.toList==n.toList then some e else none
theorem zy6 (w:W8)(b:Nat)(e:yR)(t:zdy)(n:B8)(h:j0 w b e)(hl:e.length<=12)(hr:t.1=true->pAt e t.2=none->e.length<12):
  Calls Tryz.prog 101 #[.pointer (some ⟨b,0,none⟩),zc3 t,.string n] w (zc4 w b (pmT e t n)):=by
 obtain⟨c,v⟩:=t;have HB:=zC h;have HI:=zC h;clear h;have h1:=zkz;have h2:=zi1;have h3:=zky
 cases c with
 | true=>
  have HN:=zC (z39 w b e v n (zA HI) hl (hr rfl));clear hr;have HP:=zC (show zc4 w b (pmT e (true,v) n)=zc4 w b (pmB e v n) from rfl);rw[show zc3 (true,v)=.iface 130 (.string v) from rfl];go_enter Tryz.func101,Tryz.ntmps101;go_wp2_with (go_at_call 147;refine (zA HN).mono ?_;rintro en w1 ⟨hk,rfl,ax⟩;have HK:=zC hk;have HI:=zC ax;clear hk ax);go_ret;rw[zA HP];exact⟨zA HK,rfl,zA HI⟩
 | false=>
  have HP:=zC (show zc4 w b (pmT e (false,v) n)=zc4 w b (if v.toList==n.toList then some e else none) from rfl);rw[show zc3 (false,v)=.iface 193 (.string v) from rfl];go_enter Tryz.func101,Tryz.ntmps101;go_wp2_with fail;go_ret;rw[zA HP];refine⟨zK.refl _ _,?_,λ e' ma=>?_⟩
  ·split <;> rename_i hq <;> simp[hq]
  ·split at ma
   ·cases ma;exact zA HB
   ·cases ma
end
end Go.Proofs.YtldkpahaocjdpaaGreat
