/-
  The program's Explain: what it may answer.
-/
import Derived.Test.YtldkpahaocjdpaaGreatS43
set_option maxHeartbeats 16000000
set_option maxRecDepth 1000000
namespace Go.Proofs.YtldkpahaocjdpaaGreat
section
open Go.RowKit Go.Maps
theorem set3' {w1:W8}{n:Nat}{u0 u1 u2:Value}(h0:w1.cell? ⟨n,0,none⟩=some u0)(h1:w1.cell? ⟨n,1,none⟩=some u1)(h2:w1.cell? ⟨n,2,none⟩=some u2)(v0 v1 v2:Value):(((w1.setCell ⟨n,0,none⟩ v0).setCell ⟨n,1,none⟩ v1).setCell ⟨n,2,none⟩ v2).cell? ⟨n,0,none⟩=some v0/\(((w1.setCell ⟨n,0,none⟩ v0).setCell ⟨n,1,none⟩ v1).setCell ⟨n,2,none⟩ v2).cell? ⟨n,1,none⟩=some v1/\(((w1.setCell ⟨n,0,none⟩ v0).setCell ⟨n,1,none⟩ v1).setCell ⟨n,2,none⟩ v2).cell? ⟨n,2,none⟩=some v2:=
 ⟨by rw[cs_other' (by omega),cs_other' (by omega)];exact bR h0,by rw[cs_other' (by omega)];exact bR (by rw[cs_other' (by omega)];exact h1),bR (by rw[cs_other' (by omega),cs_other' (by omega)];exact h2)⟩
theorem renum_len (B:Nat->Bool):∀ (l:List (Nat × List Nat)) (i:Nat) (pl:Nat->Nat) (out:List (Nat × List Nat)),(renum B l i pl out).length<=out.length+l.length
 | [],_,_,_=>Nat.le_refl _
 | x::r,i,pl,out=>by
  rw[renum]
  split
  ·have:=renum_len B r (i+1) (iI pl i out.length) (out++[(x.1,x.2.map (iI pl i out.length))]);simp at this ⊢;omega
  ·have:=renum_len B r (i+1) pl out;simp at this ⊢;omega
theorem renum_fr (B:Nat->Bool)(m:Nat):∀ (l:List (Nat × List Nat)) (i:Nat) (pl:Nat->Nat) (out:List (Nat × List Nat)),(∀ x∈l,x.2.length<=m)->(∀ x∈out,x.2.length<=m)->∀ x∈renum B l i pl out,x.2.length<=m
 | [],_,_,_,_,h=>h
 | y::r,i,pl,out,hl,h=>by
  rw[renum]
  split
  ·refine renum_fr B m r _ _ _ (λ x hx=>hl x (List.mem_cons_of_mem _ hx)) (λ x hx=>?_);rcases List.mem_append.1 hx with hx | hx
   ·exact h x hx
   ·rw[List.mem_singleton.1 hx,List.length_map];exact hl y List.mem_cons_self
  ·exact renum_fr B m r _ _ _ (λ x hx=>hl x (List.mem_cons_of_mem _ hx)) h
def jx (ps:P9)(S:B8->Nat)(K:List (Th × Nat))(t:Th)(rea:Nat->Nat × List Nat)(O:List Pl):List (Nat × List Nat):=
 renum (needs O (bf ps S K t) t rea (backs O.length 0)) (nodesOf O.length rea (needs O (bf ps S K t) t rea (backs O.length 0))) 0 (λ _=>0) []
def expL (ps:P9)(S:B8->Nat)(K:List (Th × Nat))(t:Th)(rea:Nat->Nat × List Nat)(O:List Pl):List Nat:=bytesOf (bf ps S K t) (jx ps S K t rea O)
theorem expN_len (ps:P9)(S:B8->Nat)(K:List (Th × Nat))(t:Th)(rea:Nat->Nat × List Nat)(O:List Pl):(jx ps S K t rea O).length<=O.length:=by
 have:=renum_len (needs O (bf ps S K t) t rea (backs O.length 0)) (nodesOf O.length rea (needs O (bf ps S K t) t rea (backs O.length 0))) 0 (λ _=>0) [];unfold jx;simpa[nodesOf] using this
theorem expN_fr {ps:P9}{S:B8->Nat}{K:List (Th × Nat)}{t:Th}{rea:Nat->Nat × List Nat}{O:List Pl}(h:∀ i,i<O.length->(rea i).2.length<=3):∀ x∈jx ps S K t rea O,x.2.length<=3:=by
 refine renum_fr _ 3 _ _ _ _ (λ x hx=>?_) (λ x hx=>by cases hx);obtain⟨i,hi,rfl⟩:=List.mem_map.1 hx
 split
 ·exact h i (List.mem_range.1 hi)
 ·simp
inductive PEOut (w:W8)(rs:List PR)(ps:P9)(s:B8)(limit:Int)(rea:(B8->Nat)->List (Th × Nat)->List Pl->Nat->Nat × List Nat)(w':W8):Ending->Prop
 | arg:cB limit=false->PEOut w rs ps s limit rea w' (.returned (.tuple #[.agg #[.int .i64 0,.int .i64 0,.slice none 0 0],.int .i64 8]))
 | ask:cB limit=true->thingS ps s=none->PEOut w rs ps s limit rea w' (.returned (.tuple #[.agg #[.int .i64 0,.int .i64 0,.slice none 0 0],.int .i64 6]))
 | fh {t:Th} {S:B8->Nat} {m:Nat}:cB limit=true->thingS ps s=some t->ValidN (rs.map (·.R)) S->LowN (rs.map (·.R)) S->IsCount ps S m->PStrat rs S limit.toNat m 0 [] none->PEOut w rs ps s limit rea w' (.returned (.tuple #[.agg #[.int .i64 0,.int .i64 0,.slice none 0 0],.int .i64 7]))
 | yes {t:Th} {S:B8->Nat} {m:Nat} {K:List (Th × Nat)} {O:List Pl} {a:O8} {c:Nat}:cB limit=true->thingS ps s=some t->ValidN (rs.map (·.R)) S->LowN (rs.map (·.R)) S->IsCount ps S m->PStrat rs S limit.toNat m 0 [] (some K)->(K.map (·.1)).Nodup->O.Perm (K.map (plOf S))->(O.Pairwise λ p q=>lessPl p q=true)->w'.ownsRow w.heap.size 5 1 (.slice a (expL ps S K t (rea S K O) O).length c) (expL ps S K t (rea S K O) O).length ((expL ps S K t (rea S K O) O).map u8c) ->
   PEOut w rs ps s limit rea w' (.returned (.tuple #[.agg #[.int .i64 (if (ay K t).isSome then 1 else 2),.int .i64 (((ay K t).getD 0:Nat):Int),.slice a (expL ps S K t (rea S K O) O).length c],.int .i64 0]))
end
section
theorem mark_mono {j:Nat}:∀ (fr:List Nat) (B:Nat->Bool),B j=true->markFrom B fr j=true
 | [],_,h=>h
 | x::r,B,h=>mark_mono r (setB B x true) (by unfold setB;split <;> simp[h])
theorem mark_in {j:Nat}:∀ (fr:List Nat) (B:Nat->Bool),j∈fr->markFrom B fr j=true
 | x::r,B,h=>by
  rcases List.mem_cons.1 h with rfl | h
  ·exact mark_mono r _ (by unfold setB;simp)
  ·exact mark_in r _ h
theorem mark_only {j:Nat}:∀ (fr:List Nat) (B:Nat->Bool),markFrom B fr j=true->B j=true\/j∈fr
 | [],_,h=>.inl h
 | x::r,B,h=>by
  rcases mark_only r (setB B x true) h with h | h
  ·unfold setB at h
   split at h
   ·rename_i e;exact .inr (by rw[e];exact List.mem_cons_self)
   ·exact .inl h
  ·exact .inr (List.mem_cons_of_mem _ h)
section
variable {O:List Pl} {k:Nat} {t:Th} {rea:Nat->Nat × List Nat}
theorem needStep_is (B:Nat->Bool)(i:Nat):needStep O k t rea B i=if need1 O k t B i i then markFrom (need1 O k t B i) (rea i).2 else need1 O k t B i:=rfl
theorem need1_mono {B:Nat->Bool}{i j:Nat}(h:B j=true):need1 O k t B i j=true:=by
 unfold need1
 split
 ·unfold setB;split <;> simp[h]
 ·exact h
theorem need1_own {B:Nat->Bool}{i:Nat}(h:ownB O k t i=true):need1 O k t B i i=true:=by
 unfold need1;rw[if_pos h];unfold setB;simp
theorem need1_only {B:Nat->Bool}{i j:Nat}(h:need1 O k t B i j=true):B j=true\/(j=i/\ownB O k t i=true):=by
 unfold need1 at h
 split at h
 ·rename_i ho;unfold setB at h
  split at h
  ·rename_i e;exact .inr ⟨e,ho⟩
  ·exact .inl h
 ·exact .inl h
theorem needStep_mono {B:Nat->Bool}{i j:Nat}(h:B j=true):needStep O k t rea B i j=true:=by
 rw[needStep_is]
 split
 ·exact mark_mono _ _ (need1_mono h)
 ·exact need1_mono h
theorem needStep_only {B:Nat->Bool}{i j:Nat}(h:needStep O k t rea B i j=true):B j=true\/(j=i/\ownB O k t i=true)\/(need1 O k t B i i=true/\j∈(rea i).2):=by
 rw[needStep_is] at h
 split at h
 ·rename_i h1;rcases mark_only _ _ h with h | h
  ·rcases need1_only h with h | h
   ·exact .inl h
   ·exact .inr (.inl h)
  ·exact .inr (.inr ⟨h1,h⟩)
 ·rcases need1_only h with h | h
  ·exact .inl h
  ·exact .inr (.inl h)
def cP (O:List Pl)(k:Nat)(t:Th)(rea:Nat->Nat × List Nat)(m:Nat):Nat->Bool:=needs O k t rea (backs O.length m)
theorem needM_step {m:Nat}(h:m<O.length):cP O k t rea m=needStep O k t rea (cP O k t rea (m+1)) m:=by
 unfold cP;rw[backs_step h,needs_snoc]
theorem needM_end:cP O k t rea O.length=λ _=>false:=by unfold cP;rw[gV];rfl
theorem needM_mono {j:Nat}:∀ (d m:Nat),m+d<=O.length->cP O k t rea (m+d) j=true->cP O k t rea m j=true
 | 0,m,_,h=>h
 | d+1,m,hm,h=>by
  have h1:=needM_mono d (m+1) (by omega) (by rw[show m+1+d=m+(d+1) by omega];exact h);rw[needM_step (by omega)];exact needStep_mono h1
theorem needM_above (aZ:∀ i,i<O.length->∀ x∈(rea i).2,x<i){j:Nat}:∀ (d m:Nat),m+d<=O.length->m+d<=j->cP O k t rea m j=cP O k t rea (m+d) j
 | 0,m,_,_=>rfl
 | d+1,m,hm,hj=>by
  rw[needM_step (by omega)];have h1:=needM_above aZ (j:=j) d (m+1) (by omega) (by omega);rw[show m+1+d=m+(d+1) by omega] at h1;rw[<-h1]
  cases hB:cP O k t rea (m+1) j with
  | true=>exact needStep_mono hB
  | false=>
   cases hs:needStep O k t rea (cP O k t rea (m+1)) m j with
   | false=>rfl
   | true=>
    rcases needStep_only hs with h | ⟨h,_⟩ | ⟨_,h⟩
    ·rw[hB] at h;cases h
    ·omega
    ·have:=aZ m (by omega) j h;omega
theorem need_own {i:Nat}(hi:i<O.length)(h:ownB O k t i=true):cP O k t rea 0 i=true:=by
 refine needM_mono i 0 (by omega) ?_;rw[Nat.zero_add,needM_step hi,needStep_is,if_pos (need1_own h)];exact mark_mono _ _ (need1_own h)
theorem jY (aZ:∀ i,i<O.length->∀ x∈(rea i).2,x<i){i:Nat}(hi:i<O.length)(h:cP O k t rea 0 i=true):∀ x∈(rea i).2,cP O k t rea 0 x=true:=λ x hx=>by
 have h1:cP O k t rea i i=true:=by have:=needM_above (k:=k) (t:=t) aZ (j:=i) i 0 (by omega) (by omega);rw[Nat.zero_add] at this;rw[<-this];exact h
 refine needM_mono i 0 (by omega) ?_;rw[Nat.zero_add];rw[needM_step hi] at h1 ⊢;rw[needStep_is] at h1 ⊢
 split at h1
 ·rename_i h2;rw[if_pos h2];exact mark_in _ _ hx
 ·rename_i h2;exact absurd h1 h2
theorem need_inv (aZ:∀ i,i<O.length->∀ x∈(rea i).2,x<i){Q:Nat->Prop}(h0:∀ i,i<O.length->ownB O k t i=true->Q i)(h1:∀ i,i<O.length->Q i->∀ x∈(rea i).2,Q x):∀ (d m:Nat),m+d=O.length->∀ j,cP O k t rea m j=true->Q j/\j<O.length
 | 0,m,hm,j,h=>by
  rw[Nat.add_zero] at hm;subst hm;rw[needM_end] at h;cases h
 | d+1,m,hm,j,h=>by
  have ih:=need_inv aZ h0 h1 d (m+1) (by omega);have jC:m<O.length:=by omega
  rw[needM_step jC] at h;rcases needStep_only h with h | ⟨rfl,h⟩ | ⟨h,hx⟩
  ·exact ih j h
  ·exact⟨h0 _ jC h,jC⟩
  ·have hq:Q m:=by
    rcases need1_only h with h | ⟨_,h⟩
    ·exact (ih m h).1
    ·exact h0 m jC h
   exact⟨h1 m jC hq j hx,by have:=aZ m jC j hx;omega⟩
end
def rankB (B:Nat->Bool)(i:Nat):Nat:=((List.range i).filter B).length
theorem rank_step (B:Nat->Bool)(i:Nat):rankB B (i+1)=rankB B i+(if B i then 1 else 0):=by
 unfold rankB;rw[List.range_succ,List.filter_append,List.length_append]
 cases h:B i <;> simp[List.filter,h]
theorem rank_at (B:Nat->Bool){n j:Nat}(hj:j<n)(h:B j=true):((List.range n).filter B)[rankB B j]?=some j:=by
 obtain⟨d,rfl⟩:∃ d,n=j+(1+d):=⟨n-(j+1),by omega⟩;have e:List.range (j+(1+d))=List.range j++j::(List.range' (j+1) d):=by
  have h1:List.range (j+(1+d))=List.range' 0 (j+(1+d)):=List.range_eq_range' ..;have h2:List.range j=List.range' 0 j:=List.range_eq_range' ..;rw[h1,h2,<-List.range'_append_1,Nat.zero_add,<-List.range'_append_1];rfl
 rw[e,List.filter_append,List.filter_cons,if_pos h];unfold rankB;rw[List.getElem?_append_right L9,Nat.sub_self];rfl
theorem renum_spec (B:Nat->Bool)(f:Nat->Nat × List Nat):∀ (d i:Nat) (pl:Nat->Nat) (out:List (Nat × List Nat)),(∀ x,x<i->B x=true->pl x=rankB B x)->out.length=rankB B i->(∀ j,i<=j->j<i+d->B j=true->∀ x∈(f j).2,x<j/\B x=true)->renum B ((List.range' i d).map f) i pl out=out++((List.range' i d).filter B).map λ j=>((f j).1,(f j).2.map (rankB B))
 | 0,i,pl,out,_,_,_=>by simp[renum]
 | d+1,i,pl,out,h1,h2,h3=>by
  rw[List.range'_succ,List.map_cons,renum,List.filter_cons]
  cases hB:B i with
  | true=>
   have hm:(f i).2.map (iI pl i out.length)=(f i).2.map (rankB B):=List.map_congr_left λ x hx=>by
    obtain⟨qq,oB⟩:=h3 i L9 (by omega) hB x hx;unfold iI;rw[if_neg (by omega)];exact h1 x qq oB
   rw[if_pos rfl,if_pos rfl,renum_spec B f d (i+1),hm,List.map_cons,List.append_assoc]
   ·rfl
   ·intro x hx hb;unfold iI
    split
    ·rename_i e;rw[e];exact h2
    ·exact h1 x (by omega) hb
   ·rw[List.length_append,h2,rank_step,hB];rfl
   ·exact λ j hj hjd=>h3 j (by omega) (by omega)
  | false=>
   rw[if_neg (by simp),if_neg (by simp)];refine renum_spec B f d (i+1) pl out (λ x hx hb=>?_) ?_ (λ j hj hjd=>h3 j (by omega) (by omega))
   ·by_cases e:x=i
    ·subst e;rw[hB] at hb;cases hb
    ·exact h1 x (by omega) hb
   ·rw[h2,rank_step,hB];rfl
theorem expN_eq {ps:P9}{S:B8->Nat}{K:List (Th × Nat)}{t:Th}{rea:Nat->Nat × List Nat}{O:List Pl}(aZ:∀ i,i<O.length->∀ x∈(rea i).2,x<i):jx ps S K t rea O=((List.range O.length).filter (cP O (bf ps S K t) t rea 0)).map λ j=>((rea j).1,(rea j).2.map (rankB (cP O (bf ps S K t) t rea 0))):=by
 unfold jx nodesOf
 show renum (cP O (bf ps S K t) t rea 0) _ 0 _ []=_
 rw[List.range_eq_range',renum_spec _ _ O.length 0 _ [] (λ x hx=>by omega) rfl,List.nil_append]
 ·refine List.map_congr_left λ j hj=>?_
  have hb:cP O (bf ps S K t) t rea 0 j=true:=(List.mem_filter.1 hj).2;have e:needs O (bf ps S K t) t rea (backs O.length 0) j=true:=hb;rw[if_pos e]
 ·intro j _ hj hb x hx;have e:needs O (bf ps S K t) t rea (backs O.length 0) j=true:=hb;rw[if_pos e] at hx;exact⟨aZ j (by omega) x hx,jY aZ (by omega) hb x hx⟩
end
section
open Go.RowKit Go.Maps
attribute [local go_sem ↓] to_tLoad to_tStore to_tAlloc thV_cells
attribute [local go_sem] tStore_new run_tAlloc
def WV (w:W8)(b:Nat)(v0 v1 v2:Value):Prop:=w.heap[b]?=some (.cells #[v0,v1,v2] 49 (0,0))
variable {b:Nat} {w:W8}
theorem WV.zero (h:WV w b (.int .i64 0) (.int .i64 0) (.slice none 0 0)):w.cell? ⟨b,0,none⟩=some (.int .i64 0)/\w.cell? ⟨b,1,none⟩=some (.int .i64 0)/\w.cell? ⟨b,2,none⟩=some (.slice none 0 0)/\∀ i,w.frozen? ⟨b,i,none⟩=false:=
 ⟨(block_cells h 0).1,(block_cells h 1).1,(block_cells h 2).1,λ i=>(block_cells h i).2⟩
theorem WV.new (w:W8):WV (w.alloc (.cells #[.int .i64 0,.int .i64 0,.slice none 0 0] 49)) w.heap.size (.int .i64 0) (.int .i64 0) (.slice none 0 0):=heap_alloc_new w _
theorem WV.below {w':W8}{v0 v1 v2:Value}(h:WV w b v0 v1 v2)(k:Below w.heap.size w w'):WV w' b v0 v1 v2:=(k.block b (Array.getElem?_eq_some_iff.1 h).1).trans h
theorem WV.set {u0 u1 u2:Value}(h:WV w b u0 u1 u2)(v0 v1 v2:Value):WV (((w.setCell ⟨b,0,none⟩ v0).setCell ⟨b,1,none⟩ v1).setCell ⟨b,2,none⟩ v2) b v0 v1 v2:=by
 have h1:WV (w.setCell ⟨b,0,none⟩ v0) b v0 u1 u2:=by
  show _=_
  rw[setCell_eq_setRow w b 0 _ _ (0,0) v0 h];exact setRow_heap _ _ _ _ _ _ h
 have h2:WV ((w.setCell ⟨b,0,none⟩ v0).setCell ⟨b,1,none⟩ v1) b v0 v1 u2:=by
  show _=_
  rw[setCell_eq_setRow _ b 1 _ _ (0,0) v1 h1];exact setRow_heap _ _ _ _ _ _ h1
 show _=_
 rw[setCell_eq_setRow _ b 2 _ _ (0,0) v2 h2];exact setRow_heap _ _ _ _ _ _ h2
variable {xs:V8} {v:Value} {size base n:Nat} {e:TypeId}
theorem own_set3 {wr:W8}(h:wr.ownsRow base e size v n xs)(hb:b<base)(u0 u1 u2:Value):(((wr.setCell ⟨b,0,none⟩ u0).setCell ⟨b,1,none⟩ u1).setCell ⟨b,2,none⟩ u2).ownsRow base e size v n xs:=
 own_block h λ g hg=>by
  have:=(h.lt g hg).1;rw[Below.heap_setCell _ _ _ _ (by simp;omega),Below.heap_setCell _ _ _ _ (by simp;omega),Below.heap_setCell _ _ _ _ (by simp;omega)]
theorem own_neT {T:TypeId}(h:w.ownsRow base e size v n xs){cs:Array Value}{fr:Nat × Nat}(hb:w.heap[b]?=some (.cells cs T fr))(bJ:e≠T):∀ g,v.ownBlock=some g->g≠b:=by
 rcases h.2 with⟨rfl,_⟩ | ⟨g',cap,cur,rfl,_,hg,_⟩
 ·intro g e;cases e
 ·intro g e
  cases e
  rintro rfl;rw[hg] at hb;injection hb with hb
  injection hb with _ ht
  exact bJ ht
theorem pexp_any (w:W8)(base b:Nat)(rs:List PR)(ps:P9)(s:B8)(limit:Int)(rea:(B8->Nat)->List (Th × Nat)->List Pl->Nat->Nat × List Nat)(hs:s.size<=2000000)(h:ProgIn w base b rs)(iH:rs.length<=30)(cQ:∀ r∈rs,r.bs.length<=3)(eR:∀ r∈rs,r.R.pd.size<=800)(j9:∀ r∈rs,∀ x∈r.bs,x.1.pd.size<=800)(kn:AgreeL ((rs.map (·.R)).flatMap bg) [])(gQ:meetL ((rs.map (·.R)).flatMap bg) []=ps)(dQ:ps.length<=1000)(ak:∀ r∈rs,(∃ n,numOf ps r.R.pd=some n)/\∀ x∈r.bs,∃ n,numOf ps x.1.pd=some n)(f0:B8->Nat)(jN:ValidN (rs.map (·.R)) f0)(je:∀ k,f0 k<=1000)(o7:dE rs (eX ps))(hg:∀ r∈rs,bu ps r)(oW:∀ t,thingS ps s=some t->ThOk t)
  (ze:cB limit=true->∀ S m K,ValidN (rs.map (·.R)) S->LowN (rs.map (·.R)) S->IsCount ps S m->PStrat rs S limit.toNat m 0 [] (some K)->∀ O:List Pl,O.Perm (K.map (plOf S))->(O.Pairwise λ p q=>lessPl p q=true)->OfArg ps S rs K O (rea S K O)):
  Calls Tryz.prog 26 #[.pointer (some ⟨b,0,none⟩),.string s,.int .i64 limit] w λ e w'=>PEOut w rs ps s limit rea w' e/\Below w.heap.size w w':=by
 obtain⟨a,c,hb,jL,hr⟩:=h;have jb:b<w.heap.size:=(Array.getElem?_eq_some_iff.1 hb).1;have k0:Below w.heap.size w (w.alloc (.cells #[.int .i64 0,.int .i64 0,.slice none 0 0] 49)):=B9.alloc L9 _;have v0:WV (w.alloc (.cells #[.int .i64 0,.int .i64 0,.slice none 0 0] 49)) w.heap.size (.int .i64 0) (.int .i64 0) (.slice none 0 0):=heap_alloc_new w _;have s0:(w.alloc (.cells #[.int .i64 0,.int .i64 0,.slice none 0 0] 49)).heap.size=w.heap.size+1:=by simp
 have HR:=hide hr;have HG:=hide hg;have tf:=hide oW;have wW:=hide ze;have qc:=hide o7;have qD:=hide (show ∀ r∈rs,r.R.pd.size<=800/\(numOf ps r.R.pd).isSome=true from λ r hr=>⟨eR r hr,by obtain⟨n,e⟩:=(ak r hr).1;rw[e];rfl⟩);have wF:=hide jN;have tu:=hide je;have rR:=hide (λ (V:W8) (hV:Below w.heap.size w V)=>of_any V base a c rs ps (hr.iZ hV L9) iH cQ eR j9 kn gQ dQ ak f0 jN je);have HB:=hide hb;clear hr cQ eR j9 kn gQ dQ ak jN je o7 hg oW ze hb;go_enter Tryz.func26,Tryz.ntmps26;go_upto_region 1 with fail;generalize (w.alloc (.cells #[.int .i64 0,.int .i64 0,.slice none 0 0] 49))=w0 at *;obtain⟨x0,_⟩:=block_cells ((k0.block b jb).trans (ad HB)) 0;obtain⟨z0,z1,z2,zf⟩:=v0.zero;have s7:=zf 0;have s9:=zf 1;have td:=zf 2;have H7:=hide v0;have cg:=hide k0;have fS:=hide s0;clear k0 v0 s0 zf;go_wp2_with fail;refine (maybe_any w0 limit).mono ?_;rintro e w1 ⟨rfl,hw⟩;have hw:=hw.symm;subst hw
 cases hL:cB limit with
 | false=>
  have HL:=hide hL;clear hL;go_wp2_with fail;obtain⟨q0,q1,q2⟩:=set3' z0 z1 z2 (.int .i64 0) (.int .i64 0) (.slice none 0 0);refine bodyPost_ret (v:=.tuple #[.agg #[.int .i64 0,.int .i64 0,.slice none 0 0],.int .i64 8]) (by simp[results,Tryz.results26,go_sem,q0,q1,q2]) rfl ?_;exact⟨.arg (ad HL),(((ad cg).setCell L9 _).setCell L9 _).setCell L9 _⟩
 | true=>
  obtain⟨l1,Kj⟩:=limit_of hL;obtain⟨lim,rfl⟩:∃ n:Nat,limit=n:=⟨limit.toNat,by omega⟩;have HL:=hide hL;clear hL z0 z1 z2 s7 s9 td;go_wp2_with fail;refine (plist_any _ b _ a rs.length c rfl x0).mono ?_;rintro e w2 ⟨rfl,hw⟩;have hw:=hw.symm;subst hw;go_wp2_with fail;refine (ad rR w0 (ad cg)).mono ?_;clear rR;rintro e w2 ⟨rfl,cd,aY,S,n,hm,hn,fN,aZ⟩;have wZ:=hide (show ∀ k,S k<=1000000 from λ k=>by have:=aZ f0 (ad wF) k;have:=ad tu k;omega);have HV:=hide fN;have iK:=hide aZ;have HM:=hide hm;have eA:=hide aY;clear fN aZ hm aY x0;go_wp2_with fail;refine (readthing_any w2 s _ n ps S (ad HM) hs).mono ?_;rintro e w3 ⟨cQ,rfl⟩;have pX:=cQ.size;have nL:=ad fS;have iC:Below w0.heap.size w0 w3:=(ad eA).trans (cQ.mono (by omega));have ew:=(ad HM).block (cQ.block _ cd);have il:=hide iC;have mY:=hide ew;have v3:WV w3 w.heap.size (.int .i64 0) (.int .i64 0) (.slice none 0 0):=(iC.block _ (by omega)).trans (ad H7);have mi:=(iC.block b (by omega)).trans (((ad cg).block b jb).trans (ad HB))
  cases hP:thingS ps s with
  | none=>
   have HP:=hide hP;have v4:WV (w3.alloc (.cells (aw ({ data:=#[] },[])).toArray 88)) w.heap.size (.int .i64 0) (.int .i64 0) (.slice none 0 0):=(Below.heap_alloc _ _ _ (by omega)).trans v3;have eC:=hide (((ad cg).trans (iC.mono (by omega))).alloc (by omega) (.cells (aw ({ data:=#[] },[])).toArray 88));obtain⟨z0,z1,z2,zf⟩:=v4.zero;have s7:=zf 0;have s9:=zf 1;have td:=zf 2;clear hP iC ew cQ v3 mi zf v4 nL;rw[Option.getD_none,Option.isSome_none];go_wp2_with fail;obtain⟨q0,q1,q2⟩:=set3' z0 z1 z2 (.int .i64 0) (.int .i64 0) (.slice none 0 0);refine bodyPost_ret (v:=.tuple #[.agg #[.int .i64 0,.int .i64 0,.slice none 0 0],.int .i64 6]) (by simp[results,Tryz.results26,go_sem,q0,q1,q2]) rfl ?_;exact⟨.ask (ad HL) (ad HP),(((ad eC).setCell L9 _).setCell L9 _).setCell L9 _⟩
  | some t=>
   have bZ:=ad tf t hP;have HP:=hide hP;have eC:=hide (iC.alloc (by omega) (.cells (aw t).toArray 88));have v4:WV (w3.alloc (.cells (aw t).toArray 88)) w.heap.size (.int .i64 0) (.int .i64 0) (.slice none 0 0):=(Below.heap_alloc _ _ _ (by omega)).trans v3;have kc:=(Below.heap_alloc w3 (.cells (aw t).toArray 88) b (by omega)).trans mi;have ju:=ew.block (Below.heap_alloc w3 (.cells (aw t).toArray 88) w0.heap.size (by omega));have t4:TV (w3.alloc (.cells (aw t).toArray 88)) w3.heap.size t:=heap_alloc_new _ _;have ly:(w3.alloc (.cells (aw t).toArray 88)).heap.size=w3.heap.size+1:=(by simp);have H9:=hide v4;have qC:=hide kc;have zN:=hide ju;have Bv:=hide t4;have BD:=hide ly;clear hP iC ew cQ v3 mi v4 kc ju t4 ly nL;rw[Option.getD_some,Option.isSome_some];go_upto_region 7 with fail;generalize (w3.alloc (.cells (aw t).toArray 88))=w4 at *;obtain⟨x0,_⟩:=block_cells (ad qC) 0;go_wp2_with fail;refine (plist_any _ b _ a rs.length c rfl x0).mono ?_;rintro e w5 ⟨rfl,hw⟩;have hw:=hw.symm;subst hw;clear x0;go_wp2_with fail;have ly:=ad BD;have oR:Below w.heap.size w w4:=(ad cg).trans ((ad eC).mono (by have:=ad fS;omega));have fg:=(ad HR).iZ oR L9;refine (foll_any w4 base a c rs w0.heap.size n ps S lim (eX ps) fg (by have:=oR.size;omega) (ad zN) (λ k _=>ad wZ k) (by omega) (ad qD) (ad qc) (by omega)).mono ?_;rintro e w5 ⟨m,r,lf,iu,eO,cC,eJ⟩;have nL:=ad fS;have gx:Below w.heap.size w w5:=oR.trans (eO.mono (by omega));have v5:WV w5 w.heap.size (.int .i64 0) (.int .i64 0) (.slice none 0 0):=(eO.block _ (by omega)).trans (ad H9);have u3:=eO.size;have iP:=hide gx;have HX:=hide (And.intro lf iu)
   cases r with
   | none=>
    have he:=cC rfl;subst he;obtain⟨z0,z1,z2,zf⟩:=v5.zero;have s7:=zf 0;have s9:=zf 1;have td:=zf 2;clear cC eJ lf iu gx eO ly oR fg v5 zf nL u3;go_wp2_with fail;obtain⟨q0,q1,q2⟩:=set3' z0 z1 z2 (.int .i64 0) (.int .i64 0) (.slice none 0 0);refine bodyPost_ret (v:=.tuple #[.agg #[.int .i64 0,.int .i64 0,.slice none 0 0],.int .i64 7]) (by simp[results,Tryz.results26,go_sem,q0,q1,q2]) rfl ?_;exact⟨.fh (ad HL) (ad HP) (ad HV) (ad iK) (ad HX).1 (ad HX).2,(((ad iP).setCell L9 _).setCell L9 _).setCell L9 _⟩
   | some K=>
    obtain⟨kb,rfl,vJ,cA,BT,xM⟩:=eJ K rfl;have t5:TV w5 w3.heap.size t:=(ad Bv).below eO;have rf:=(ad zN).block (eO.block _ (by omega));have rr:=fg.below eO;have yY:=(eO.block b (by omega)).trans (ad qC);have kJ:=hide cA;have Ia:=hide v5;have wN:=hide xM;have qK:=hide t5;have Ha:=hide rf;have tK:=hide rr;have Bh:=hide yY;have Bt:=hide (show w.heap.size+1=w0.heap.size/\w0.heap.size<w2.heap.size/\w2.heap.size<=w3.heap.size/\w3.heap.size+1<=w5.heap.size from by omega);clear cC eJ lf iu gx eO cA xM ly oR fg v5 t5 rf rr yY nL u3;go_upto_region 10 with fail
    have jw:=hide (show (K.map λ p=>thText p.1).Nodup from by
     have h1:=(ad kJ).nodup;unfold List.Nodup at h1 ⊢;rw[List.pairwise_map] at h1 ⊢
     exact List.Pairwise.imp_of_mem (λ ha hb bJ e=>bJ (thText_inj (ad wN _ ha).w (ad wN _ hb).w e)) h1)
    have EL:kb<w5.heap.size:=(ad kJ).lt
    have Ic:=hide (λ (V:W8) (hV:Below w5.heap.size w5 V)=>(show Calls Tryz.prog 42 #[.slice a rs.length c,.map (some w0.heap.size),.map (some kb),thV t] V λ e w'=>∃ (O:List Pl) (out:List ND) (a6:O8) (c6:Nat),O.Perm (K.map (plOf S))/\(O.Pairwise λ p q=>lessPl p q=true)/\e=.returned (.agg #[.int .i64 (bf ps S K t:Nat),.slice a6 out.length c6])/\bN w' w5.heap.size (.slice a6 out.length c6) out/\bytesOf (bf ps S K t) (out.map dW)=expL ps S K t (rea S K O) O/\out.length<=50/\(∀ x∈out,x.fr.length<=3)/\Below V.heap.size V w' from by
     have hx:=ad HX;have bS:=ad Bt;refine (wof_any ps V base w0.heap.size n kb a c rs S K t (rea S K) ((ad tK).iZ hV L9) ((ad Ha).block (hV.block _ (by omega))) ((ad kJ).block (hV.block _ EL)) (ad HG) (ad wN) (by omega) (λ p _=>ad wZ p) bZ (ad wZ _) (ad jw) (λ O h1 h2=>ad wW (ad HL) S m K (ad HV) (ad iK) hx.1 (by simpa using hx.2) O h1 h2)).mono ?_;rintro e w' ⟨O,ln,jU,out,a6,c6,rfl,hn,hp,iD⟩;have hA:=ad wW (ad HL) S m K (ad HV) (ad iK) hx.1 (by simpa using hx.2) O ln jU;have hp:out.map dW=jx ps S K t (rea S K O) O:=hp;have hlen:out.length=(out.map dW).length:=(by simp);have xN:O.length=K.length:=(by rw[ln.length_eq,List.length_map]);refine⟨O,out,a6,c6,ln,jU,rfl,hn.low hV.size,by rw[hp];rfl,?_,λ x hx=>?_,iD⟩
     ·rw[hlen,hp];have:=expN_len ps S K t (rea S K O) O;omega
     ·have h3:dW x∈out.map dW:=List.mem_map_of_mem hx;rw[hp] at h3
      exact expN_fr hA.len (dW x) h3))
    have HA:=hide (λ (V:W8) (hV:Below w5.heap.size w5 V)=>(show V.cell? ⟨b,0,none⟩=some (.slice a rs.length c)/\(tLoad (.pointer (some ⟨w3.heap.size,0,none⟩))).run Tryz.prog V=.ok (thV t) V from by
     have bS:=ad Bt
     exact⟨(block_cells ((hV.block b (by omega)).trans (ad Bh)) 0).1,((ad qK).below hV).load⟩))
    have xF:Below w5.heap.size w5 w5.drew:=B9.drew;have xE:=ad HA w5.drew xF
    go_region_held3 (λ V=>V.cell? ⟨b,0,none⟩=some (.slice a rs.length c)/\(tLoad (.pointer (some ⟨w3.heap.size,0,none⟩))).run Tryz.prog V=.ok (thV t) V) ((refine ad HA _ ?_;first | exact xF | exact om | exact iM | exact B9.drew | exact (B9.alloc L9 _).drew | exact om.alloc om.size _ | exact iM.alloc iM.size _ | exact ((om.setCell L9 _).setCell L9 _).setCell L9 _ | exact ((om.setCell iM.size _).setCell iM.size _).setCell iM.size _)) ((first
     | (go_at_call 36;refine (plist_any _ b _ a rs.length c rfl (ad HA _ (by first | exact B9.drew | exact (B9.alloc L9 _).drew)).1).mono ?_;rintro e w6 ⟨rfl,hw⟩;have hw:=hw.symm;subst hw)
     | (go_at_call 42;refine (ad Ic _ (by first | exact B9.drew | exact (B9.alloc L9 _).drew)).mono ?_;rintro e w6 ⟨O,out,a6,c6,ln,jU,rfl,FB,yt,Jt,Ff,eE⟩;have iM:Below w5.heap.size w5 w6:=(by first | exact below_of_drew eE | exact below_past (B9.alloc L9 _) eE);have lE:=hide (And.intro ln jU);have qf:=hide FB;have GU:=hide yt;have GV:=hide Ff;(first | (have DN:=(WV.new w5).below (below_of_drew eE)) | skip);clear ln jU FB yt Ff eE)
     | (go_at_call 43;refine (bytes_any _ w5.heap.size (bf ps S K t) a6 c6 out (by first | exact ad qf | exact (ad qf).below (B9.alloc L9 _)) Jt (ad GV)).mono ?_;rintro e w7 ⟨a7,c7,rfl,pN,mG⟩;have om:Below w5.heap.size w5 w7:=(by first | exact iM.trans (mG.mono iM.size) | exact below_past (iM.alloc iM.size _) mG | exact (iM.alloc iM.size _).trans (mG.mono (iM.alloc iM.size _).size));(first | (have rz:=DN.below mG;have AE:=rz.zero;obtain⟨z0,z1,z2,zf⟩:=AE;have s7:=zf 0;have s9:=zf 1;have td:=zf 2;clear zf) | (have rz:=(WV.new w6).below mG;have AE:=rz.zero;obtain⟨z0,z1,z2,zf⟩:=AE;have s7:=zf 0;have s9:=zf 1;have td:=zf 2;clear zf) | skip);rw[ad GU] at pN ⊢;have mx:=hide pN;clear pN)))
    have kx:WV (w7.alloc (.cells #[.int .i64 2,.int .i64 0,.slice a7 (expL ps S K t (rea S K O) O).length c7] 49)) w7.heap.size (.int .i64 2) (.int .i64 0) (.slice a7 (expL ps S K t (rea S K O) O).length c7):=heap_alloc_new w7 _;have lI:Below w5.heap.size w5 (w7.alloc (.cells #[.int .i64 2,.int .i64 0,.slice a7 (expL ps S K t (rea S K O) O).length c7] 49)):=om.alloc om.size _;have jG:(w7.alloc (.cells #[.int .i64 2,.int .i64 0,.slice a7 (expL ps S K t (rea S K O) O).length c7] 49)).ownsRow w5.heap.size 5 1 (.slice a7 (expL ps S K t (rea S K O) O).length c7) (expL ps S K t (rea S K O) O).length ((expL ps S K t (rea S K O) O).map u8c):=(ax (ad mx) iM.size).alloc _;have dc:w5.heap.size<=w7.heap.size:=om.size;generalize (w7.alloc (.cells #[.int .i64 2,.int .i64 0,.slice a7 (expL ps S K t (rea S K O) O).length c7] 49))=w8 at kx lI jG ⊢;obtain⟨bx,iN⟩:∃ bx,bx=w7.heap.size:=⟨_,rfl⟩;rw[<-iN] at kx dc ⊢;clear iN
    rotate_left
    have kx:=rz.set (.int .i64 2) (.int .i64 0) (.slice a7 (expL ps S K t (rea S K O) O).length c7);have lI:Below w5.heap.size w5 (((w7.setCell ⟨w6.heap.size,0,none⟩ (.int .i64 2)).setCell ⟨w6.heap.size,1,none⟩ (.int .i64 0)).setCell ⟨w6.heap.size,2,none⟩ (.slice a7 (expL ps S K t (rea S K O) O).length c7)):=((om.setCell iM.size _).setCell iM.size _).setCell iM.size _;have jG:(((w7.setCell ⟨w6.heap.size,0,none⟩ (.int .i64 2)).setCell ⟨w6.heap.size,1,none⟩ (.int .i64 0)).setCell ⟨w6.heap.size,2,none⟩ (.slice a7 (expL ps S K t (rea S K O) O).length c7)).ownsRow w5.heap.size 5 1 (.slice a7 (expL ps S K t (rea S K O) O).length c7) (expL ps S K t (rea S K O) O).length ((expL ps S K t (rea S K O) O).map u8c):=ax (own_set3 (ad mx) (by simp) _ _ _) (by have:=iM.size;first | omega | (simp only[World.size_alloc];omega));clear rz z0 z1 z2 s7 s9 td;generalize (((w7.setCell ⟨w6.heap.size,0,none⟩ (.int .i64 2)).setCell ⟨w6.heap.size,1,none⟩ (.int .i64 0)).setCell ⟨w6.heap.size,2,none⟩ (.slice a7 (expL ps S K t (rea S K O) O).length c7))=w8 at kx lI jG ⊢;obtain⟨bx,iN⟩:∃ bx,bx=w6.heap.size:=⟨_,rfl⟩;have dc:w5.heap.size<=bx:=(by rw[iN];exact iM.size);rw[<-iN] at kx ⊢;clear iN
    rotate_left
    have kx:=rz.set (.int .i64 2) (.int .i64 0) (.slice a7 (expL ps S K t (rea S K O) O).length c7);have lI:Below w5.heap.size w5 (((w7.setCell ⟨w5.heap.size,0,none⟩ (.int .i64 2)).setCell ⟨w5.heap.size,1,none⟩ (.int .i64 0)).setCell ⟨w5.heap.size,2,none⟩ (.slice a7 (expL ps S K t (rea S K O) O).length c7)):=((om.setCell L9 _).setCell L9 _).setCell L9 _;have jG:(((w7.setCell ⟨w5.heap.size,0,none⟩ (.int .i64 2)).setCell ⟨w5.heap.size,1,none⟩ (.int .i64 0)).setCell ⟨w5.heap.size,2,none⟩ (.slice a7 (expL ps S K t (rea S K O) O).length c7)).ownsRow w5.heap.size 5 1 (.slice a7 (expL ps S K t (rea S K O) O).length c7) (expL ps S K t (rea S K O) O).length ((expL ps S K t (rea S K O) O).map u8c):=ax (own_set3 (ad mx) (Array.getElem?_eq_some_iff.1 DN).1 _ _ _) (by have:=iM.size;first | omega | (simp only[World.size_alloc];omega));clear rz z0 z1 z2 s7 s9 td;generalize (((w7.setCell ⟨w5.heap.size,0,none⟩ (.int .i64 2)).setCell ⟨w5.heap.size,1,none⟩ (.int .i64 0)).setCell ⟨w5.heap.size,2,none⟩ (.slice a7 (expL ps S K t (rea S K O) O).length c7))=w8 at kx lI jG ⊢;obtain⟨bx,iN⟩:∃ bx,bx=w5.heap.size:=⟨_,rfl⟩;have dc:w5.heap.size<=bx:=(by rw[iN];exact L9);rw[<-iN] at kx ⊢;clear iN
    rotate_left
    have kx:=rz.set (.int .i64 2) (.int .i64 0) (.slice a7 (expL ps S K t (rea S K O) O).length c7);have lI:Below w5.heap.size w5 (((w7.setCell ⟨w5.heap.size,0,none⟩ (.int .i64 2)).setCell ⟨w5.heap.size,1,none⟩ (.int .i64 0)).setCell ⟨w5.heap.size,2,none⟩ (.slice a7 (expL ps S K t (rea S K O) O).length c7)):=((om.setCell L9 _).setCell L9 _).setCell L9 _;have jG:(((w7.setCell ⟨w5.heap.size,0,none⟩ (.int .i64 2)).setCell ⟨w5.heap.size,1,none⟩ (.int .i64 0)).setCell ⟨w5.heap.size,2,none⟩ (.slice a7 (expL ps S K t (rea S K O) O).length c7)).ownsRow w5.heap.size 5 1 (.slice a7 (expL ps S K t (rea S K O) O).length c7) (expL ps S K t (rea S K O) O).length ((expL ps S K t (rea S K O) O).map u8c):=ax (own_set3 (ad mx) (Array.getElem?_eq_some_iff.1 DN).1 _ _ _) (by have:=iM.size;first | omega | (simp only[World.size_alloc];omega));clear rz z0 z1 z2 s7 s9 td;generalize (((w7.setCell ⟨w5.heap.size,0,none⟩ (.int .i64 2)).setCell ⟨w5.heap.size,1,none⟩ (.int .i64 0)).setCell ⟨w5.heap.size,2,none⟩ (.slice a7 (expL ps S K t (rea S K O) O).length c7))=w8 at kx lI jG ⊢;obtain⟨bx,iN⟩:∃ bx,bx=w5.heap.size:=⟨_,rfl⟩;have dc:w5.heap.size<=bx:=(by rw[iN];exact L9);rw[<-iN] at kx ⊢;clear iN
    rotate_left
    all_goals
     have IM:=ad Bt;have t8:=(ad HA w8 lI).2;have Gk:=((ad kJ).block (lI.block _ EL)).look bZ Tryz.underlying83;have Ky:=(block_cells kx 0).1;have Kz:=(block_cells kx 1).1;have KA:=(block_cells kx 2).1;have zg0:=(block_cells kx 0).2;have zg1:=(block_cells kx 1).2;simp only[List.getElem?_toArray,List.getElem?_cons_zero,List.getElem?_cons_succ] at Ky Kz KA;have v8:WV w8 w.heap.size (.int .i64 0) (.int .i64 0) (.slice none 0 0):=(lI.block _ (by omega)).trans (ad Ia);obtain⟨y0,y1,y2,yf⟩:=v8.zero;have yf0:=yf 0;have DT:=yf 1;have yf2:=yf 2;have bJ:bx≠w.heap.size:=(by omega);have pR:w.heap.size<w5.heap.size:=(by omega);have DW:=hide lI;have rU:=hide jG;have Bm:=hide (own_neT jG kx (by decide));clear lI jG yf v8 kx IM om xE xF;generalize hEL:expL ps S K t (rea S K O) O=L at *;have rO:=hide hEL;clear hEL
     cases aR:ay K t with
     | none=>
      rw[aR] at Gk;have tD:=hide aR;clear aR;go_wp2_with fail;have DQ:=y0;have DR:=y1;have DS:=y2;obtain⟨q0,q1,q2⟩:=set3' DQ DR DS (.int .i64 2) (.int .i64 0) (.slice a7 L.length c7);refine bodyPost_ret (v:=.tuple #[.agg #[.int .i64 2,.int .i64 0,.slice a7 L.length c7],.int .i64 0]) (by simp[results,Tryz.results26,go_sem,q0,q1,q2]) rfl ?_;have iN:=ad iP;have lI:Below w.heap.size w w8:=iN.trans ((ad DW).mono iN.size);have hy:=PEOut.yes (w:=w) (rs:=rs) (ps:=ps) (s:=s) (limit:=(lim:Int)) (rea:=rea) (w':=(((w8.setCell ⟨w.heap.size,0,none⟩ (.int .i64 2)).setCell ⟨w.heap.size,1,none⟩ (.int .i64 0)).setCell ⟨w.heap.size,2,none⟩ (.slice a7 L.length c7))) (a:=a7) (c:=c7) (O:=O) (ad HL) (ad HP) (ad HV) (ad iK) (ad HX).1 (ad HX).2 (ad kJ).nodup (ad lE).1 (ad lE).2 (by rw[ad rO];exact ax (own_set3 (ad rU) pR _ _ _) (by omega));rw[ad rO,ad tD] at hy;exact⟨hy,((lI.setCell L9 _).setCell L9 _).setCell L9 _⟩
     | some hh=>
      rw[aR] at Gk;have tD:=hide aR;clear aR;go_wp2_with fail;have DQ:((w8.setCell ⟨bx,0,none⟩ (.int .i64 1)).setCell ⟨bx,1,none⟩ (.int .i64 (hh:Nat))).cell? ⟨w.heap.size,0,none⟩=some (.int .i64 0):=(by rw[World.cell?_of_block (w:=w8) (by rw[Below.heap_setCell _ _ _ _ (by simpa using bJ.symm),Below.heap_setCell _ _ _ _ (by simpa using bJ.symm)])];exact y0);have DR:((w8.setCell ⟨bx,0,none⟩ (.int .i64 1)).setCell ⟨bx,1,none⟩ (.int .i64 (hh:Nat))).cell? ⟨w.heap.size,1,none⟩=some (.int .i64 0):=(by rw[World.cell?_of_block (w:=w8) (by rw[Below.heap_setCell _ _ _ _ (by simpa using bJ.symm),Below.heap_setCell _ _ _ _ (by simpa using bJ.symm)])];exact y1);have DS:((w8.setCell ⟨bx,0,none⟩ (.int .i64 1)).setCell ⟨bx,1,none⟩ (.int .i64 (hh:Nat))).cell? ⟨w.heap.size,2,none⟩=some (.slice none 0 0):=(by rw[World.cell?_of_block (w:=w8) (by rw[Below.heap_setCell _ _ _ _ (by simpa using bJ.symm),Below.heap_setCell _ _ _ _ (by simpa using bJ.symm)])];exact y2);obtain⟨q0,q1,q2⟩:=set3' DQ DR DS (.int .i64 1) (.int .i64 (hh:Nat)) (.slice a7 L.length c7);refine bodyPost_ret (v:=.tuple #[.agg #[.int .i64 1,.int .i64 (hh:Nat),.slice a7 L.length c7],.int .i64 0]) (by simp[results,Tryz.results26,go_sem,q0,q1,q2]) rfl ?_;have iN:=ad iP;have zh:((w8.setCell ⟨bx,0,none⟩ (.int .i64 1)).setCell ⟨bx,1,none⟩ (.int .i64 (hh:Nat))).ownsRow w5.heap.size 5 1 (.slice a7 L.length c7) L.length (L.map u8c):=own_block (ad rU) (λ g e=>by have:=ad Bm g e;rw[Below.heap_setCell _ _ _ _ (by simpa using this),Below.heap_setCell _ _ _ _ (by simpa using this)]);have lI:Below w.heap.size w w8:=iN.trans ((ad DW).mono iN.size);have hy:=PEOut.yes (w:=w) (rs:=rs) (ps:=ps) (s:=s) (limit:=(lim:Int)) (rea:=rea) (w':=(((((w8.setCell ⟨bx,0,none⟩ (.int .i64 1)).setCell ⟨bx,1,none⟩ (.int .i64 (hh:Nat))).setCell ⟨w.heap.size,0,none⟩ (.int .i64 1)).setCell ⟨w.heap.size,1,none⟩ (.int .i64 (hh:Nat))).setCell ⟨w.heap.size,2,none⟩ (.slice a7 L.length c7))) (a:=a7) (c:=c7) (O:=O) (ad HL) (ad HP) (ad HV) (ad iK) (ad HX).1 (ad HX).2 (ad kJ).nodup (ad lE).1 (ad lE).2 (by rw[ad rO];exact ax (own_set3 zh pR _ _ _) (by omega))
      rw[ad rO,ad tD] at hy;exact⟨hy,((((lI.setCell (p:=⟨bx,0,none⟩) (show w.heap.size<=bx by omega) _).setCell (p:=⟨bx,1,none⟩) (show w.heap.size<=bx by omega) _).setCell L9 _).setCell L9 _).setCell L9 _⟩
end
end Go.Proofs.YtldkpahaocjdpaaGreat
