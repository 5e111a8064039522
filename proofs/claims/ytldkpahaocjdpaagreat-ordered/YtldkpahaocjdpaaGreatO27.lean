/-
  Plain: what a rule says, in the reference's words and in the program's.
-/
import Derived.Test.YtldkpahaocjdpaaGreatO26
set_option maxHeartbeats 16000000
set_option maxRecDepth 1000000
namespace Go.Proofs.YtldkpahaocjdpaaGreat
section
theorem pAt_snoc (v n u:B8):∀ e:ax,pAt (e++[(v,n)]) u=match pAt e u with | some x=>some x | none=>if v.toList==u.toList then some n else none
 | []=>by rw[List.nil_append,pAt,pAt];simp[pAt]
 | x::r=>by
  rw[List.cons_append,pAt,pAt]
  by_cases c:(x.1.toList==u.toList)=true
  ·rw[if_pos c,if_pos c]
  ·rw[if_neg c,if_neg c];exact pAt_snoc v n u r
structure ie (e e':ax)(k:Nat):Prop where
 w:gq e'
 len:e'.length<=e.length+k
 ext:∀ v x,pAt e v=some x->pAt e' v=some x
variable {e:ax}
theorem ie.refl (h:gq e):ie e e 0:=⟨h,by omega,λ _ _ h=>h⟩
variable {e':ax}
theorem pmT_env {t:PTerm}{n:B8}(hn:cY n)(he:gq e)(h:pmT e t n=some e'):ie e e' 1/\(t.1=true->∃ x,pAt e' t.2=some x):=by
 unfold pmT at h
 by_cases hv:t.1=true
 ·rw[if_pos hv] at h;unfold pmB at h
  cases hp:pAt e t.2 with
  | none=>
   rw[hp] at h
   cases h
   refine⟨⟨he.snoc hn,by simp,λ v x hx=>by rw[pAt_snoc,hx]⟩,λ _=>⟨n,?_⟩⟩;rw[pAt_snoc,hp];simp
  | some x=>
   rw[hp] at h;simp only at h
   split at h
   ·cases h;exact⟨⟨he,by omega,λ _ _ h=>h⟩,λ _=>⟨x,hp⟩⟩
   ·cases h
 ·rw[if_neg hv] at h
  split at h
  ·cases h;exact⟨⟨he,by omega,λ _ _ h=>h⟩,λ c=>absurd c hv⟩
  ·cases h
theorem pmTs_env:∀ (ts:List PTerm) (ns:List B8) (e e':ax),ts.length=ns.length->(∀ x∈ns,cY x)->gq e->pmTs e ts ns=some e'->ie e e' ts.length/\∀ t∈ts,t.1=true->∃ x,pAt e' t.2=some x
 | [],_,e,e',_,_,he,h=>by
  rw[pmTs] at h
  cases h
  exact⟨ie.refl he,by simp⟩
 | t::ts,[],_,_,hl,_,_,_=>by cases hl
 | t::ts,n::ns,e,e',hl,hn,he,h=>by
  rw[pmTs] at h;simp only[List.headD_cons,List.tail_cons] at h
  cases h1:pmT e t n with
  | none=>rw[h1] at h;cases h
  | some e1=>
   rw[h1] at h;simp only at h;obtain⟨g1,b1⟩:=pmT_env (hn n List.mem_cons_self) he h1;obtain⟨g2,b2⟩:=pmTs_env ts ns e1 e' (by simpa using hl) (λ x hx=>hn x (List.mem_cons_of_mem _ hx)) g1.w h;refine⟨⟨g2.w,by have:=g1.len;have:=g2.len;simp;omega,λ v x hx=>g2.ext v x (g1.ext v x hx)⟩,λ u hu hv=>?_⟩;rcases List.mem_cons.1 hu with rfl | hu
   ·obtain⟨x,hx⟩:=b1 hv;exact⟨x,g2.ext _ _ hx⟩
   ·exact b2 u hu hv
variable {ps:P9}
theorem pmatch_env {a:PAtm}{t:Th}(ha:AtomG ps a)(ht:eE ps t)(he:gq e)(h:aG e a t=some e'):ie e e' 4/\∀ t∈a.ts,t.1=true->∃ x,pAt e' t.2=some x:=by
 unfold aG at h
 split at h
 ·rename_i c;have hp:a.p=t.1:=aW.1 c;have hl:a.ts.length=t.2.length:=by
   have h1:=ha.num;rw[hp,ht.num] at h1;exact (Option.some.inj h1).symm
  obtain⟨g,b⟩:=pmTs_env a.ts t.2 e e' hl ht.w.ts he h;exact⟨⟨g.w,by have:=g.len;have:=ha.w.ft;omega,g.ext⟩,b⟩
 ·cases h
theorem pmatches_env {ps:P9}{K:List (Th × Nat)}(hK:∀ p∈K,eE ps p.1):∀ (pos:List PAtm) (e0 e:ax),(∀ a∈pos,AtomG ps a)->gq e0->e∈pmatches K pos e0->ie e0 e (4*pos.length)/\∀ a∈pos,∀ t∈a.ts,t.1=true->∃ x,pAt e t.2=some x
 | [],e0,e,_,he,h=>by
  rw[pmatches] at h;rw[List.mem_singleton.1 h];exact⟨ie.refl he,by simp⟩
 | a::r,e0,e,ha,he,h=>by
  rw[pmatches] at h;obtain⟨p,hp,h⟩:=List.mem_flatMap.1 h
  cases hm:aG e0 a p.1 with
  | none=>rw[hm] at h;simp at h
  | some e1=>
   rw[hm] at h;simp only at h;obtain⟨g1,b1⟩:=pmatch_env (ha a List.mem_cons_self) (hK p hp) he hm;obtain⟨g2,b2⟩:=pmatches_env hK r e1 e (λ x hx=>ha x (List.mem_cons_of_mem _ hx)) g1.w h;refine⟨⟨g2.w,by have:=g1.len;have:=g2.len;simp;omega,λ v x hx=>g2.ext v x (g1.ext v x hx)⟩,λ x hx t ht hv=>?_⟩;rcases List.mem_cons.1 hx with rfl | hx
   ·obtain⟨y,hy⟩:=b1 t ht hv;exact⟨y,g2.ext _ _ hy⟩
   ·exact b2 x hx t ht hv
theorem fill_good {A:PAtm}(hA:AtomG ps A)(he:gq e)(hb:∀ t∈A.ts,t.1=true->∃ x,pAt e t.2=some x):eE ps (aB e A):=by
 refine⟨⟨hA.w.pd,λ x hx=>?_⟩,?_,?_⟩
 ·obtain⟨t,ht,rfl⟩:=List.mem_map.1 hx;unfold cd
  split
  ·rename_i hv;obtain⟨x,h1⟩:=hb t ht hv;unfold dD;rw[h1];exact pAt_word he h1
  ·exact hA.w.ts t ht
 ·show numOf ps A.p=some (A.ts.map (cd e)).length
  rw[List.length_map];exact hA.num
 ·show (A.ts.map (cd e)).length<=4
  rw[List.length_map];exact hA.w.ft
theorem eE.ok {t:Th}(h:eE ps t):ThOk t:=
 ⟨by have:=h.w.pd.le;show t.1.size<=_;omega,h.ft,λ x hx=>by have:=(h.w.ts x hx).le;omega,λ x hx=>(h.w.ts x hx).ne⟩
theorem mem_pos {ls:List (PLit × Value)}{a:PAtm}:a∈posOf ls↔∃ x∈ls,x.1.neg=false/\a=⟨x.1.pd,x.1.ts⟩:=by
 unfold posOf aC;simp only[List.map_map,List.mem_map,List.mem_filter,Function.comp_def,litAtm,isNeg]
 constructor
 ·rintro⟨x,⟨h1,h2⟩,rfl⟩;exact⟨x,h1,by simpa using h2,rfl⟩
 ·rintro⟨x,h1,h2,rfl⟩;exact⟨x,⟨h1,by simp[h2]⟩,rfl⟩
theorem mem_neg {ls:List (PLit × Value)}{a:PAtm}:a∈negOf ls↔∃ x∈ls,x.1.neg=true/\a=⟨x.1.pd,x.1.ts⟩:=by
 unfold negOf aC;simp only[List.map_map,List.mem_map,List.mem_filter,Function.comp_def,litAtm,isNeg]
 constructor
 ·rintro⟨x,⟨h1,h2⟩,rfl⟩;exact⟨x,h1,by simpa using h2,rfl⟩
 ·rintro⟨x,h1,h2,rfl⟩;exact⟨x,⟨h1,by simp[h2]⟩,rfl⟩
structure bF (ps:P9)(r:PR):Prop where
 l3:r.bs.length<=3
 hd:AtomG ps (aO r)
 ls:∀ x∈r.bs,AtomG ps ⟨x.1.pd,x.1.ts⟩
 mP:∀ t∈(aO r).ts,t.1=true->∃ a∈posOf r.bs,t∈a.ts
 mQ:∀ x∈negOf r.bs,∀ t∈x.ts,t.1=true->∃ a∈posOf r.bs,t∈a.ts
variable {r:PR}
theorem bF.pos (h:bF ps r):∀ a∈posOf r.bs,AtomG ps a:=λ a ha=>by
 obtain⟨x,hx,_,rfl⟩:=mem_pos.1 ha;exact h.ls x hx
theorem bF.neg (h:bF ps r):∀ a∈negOf r.bs,AtomG ps a:=λ a ha=>by
 obtain⟨x,hx,_,rfl⟩:=mem_neg.1 ha;exact h.ls x hx
theorem pos_len (ls:List (PLit × Value)):(posOf ls).length<=ls.length:=by
 unfold posOf aC;rw[List.length_map,List.length_map];exact List.length_filter_le _ _
theorem envW_nil:gq []:=λ p hp=>by cases hp
structure WayG (ps:P9)(r:PR)(e:ax):Prop where
 w:gq e
 len:e.length<=12
 hd:eE ps (aB e (aO r))
 neg:∀ x∈negOf r.bs,eE ps (aB e x)
theorem bF.rE (h:bF ps r){K:List (Th × Nat)}(hK:∀ p∈K,eE ps p.1)(he:e∈pmatches K (posOf r.bs) []):WayG ps r e:=by
 obtain⟨g,b⟩:=pmatches_env hK (posOf r.bs) [] e h.pos envW_nil he;refine⟨g.w,?_,fill_good h.hd g.w λ t ht hv=>?_,λ x hx=>fill_good (h.neg x hx) g.w λ t ht hv=>?_⟩
 ·have h1:=g.len;have h2:=pos_len r.bs;have h3:=h.l3;rw[List.length_nil] at h1;omega
 ·obtain⟨a,ha,zu⟩:=h.mP t ht hv;exact b a ha t zu hv
 ·obtain⟨a,ha,zu⟩:=h.mQ x hx t ht hv;exact b a ha t zu hv
theorem closed_of {rs:List PR}(h:∀ r∈rs,bF ps r):dr rs (eE ps):=λ _ hK r hr=>
 have g:=h r hr
 ⟨⟨g.l3,λ x hx=>(g.ls x hx).w.ft,g.hd.w.ft,λ _ he x hx=>((g.rE hK he).neg x hx).ok,λ _ he=>(g.rE hK he).hd.ok,λ _ he=>(g.rE hK he).len⟩,λ _ he=>(g.rE hK he).hd⟩
theorem th_len {t:Th}(h:eE ps t):(atomT t.1 (thTerms t)).length<=1000000000:=by
 have h1:=rtermsT_len (thTerms t) 0 (λ x hx=>by have:=(h.w.aS x hx).le;omega);have h2:(thTerms t).length=t.2.length:=by unfold thTerms;simp
 have h3:=h.ft;have h4:=h.w.pd.le;have h5:=size_list t.1;unfold atomT;rw[List.length_append,List.length_append];have h6:(if (thTerms t).length=0 then ([]:List UInt8) else [41]).length<=1:=by split <;> simp
 have h7:(thTerms t).length*1001<=4*1001:=Nat.mul_le_mul_right _ (by omega);omega
end
section
def posB (b:List RAtom):List PAtm:=(b.filter λ A=>!A.no).map pa
def negsB (b:List RAtom):List PAtm:=(b.filter λ A=>A.no).map pa
structure dO (R:RRule)(r:PR):Prop where
 eq:r.R=pruleOf R
 bd:r.bs.map (·.1)=r.R.body
variable {r:PR} {R:RRule}
theorem dO.pos (h:dO R r):posOf r.bs=posB R.body:=by
 have e:r.bs.map (·.1)=R.body.map cI:=by rw[h.bd,h.eq];rfl
 unfold posOf aC posB;have:∀ (ls:List (PLit × Value)) (b:List RAtom),ls.map (·.1)=b.map cI->((ls.filter (isNeg false)).map litAtm).map (·.1)=(b.filter λ A=>!A.no).map pa:=by
  intro ls
  induction ls with
  | nil=>intro b hb;cases b with
   | nil=>rfl
   | cons x r=>cases hb
  | cons x q ih=>
   intro b hb
   cases b with
   | nil=>cases hb
   | cons A b=>
    rw[List.map_cons,List.map_cons] at hb;injection hb with h1 h2
    have:=ih b h2;rw[List.filter_cons,List.filter_cons];have hn:x.1.neg=A.no:=(by rw[h1];rfl);unfold isNeg at this ⊢;rw[hn]
    cases A.no with
    | true=>simpa using this
    | false=>
     simp only[Bool.not_false,if_true,beq_self_eq_true,List.map_cons];rw[this]
     congr 1
     show (⟨x.1.pd,x.1.ts⟩:PAtm)=pa A
     rw[h1];rfl
 exact this _ _ e
theorem dO.neg {R:RRule}{r:PR}(h:dO R r):negOf r.bs=negsB R.body:=by
 have e:r.bs.map (·.1)=R.body.map cI:=by rw[h.bd,h.eq];rfl
 unfold negOf aC negsB;have:∀ (ls:List (PLit × Value)) (b:List RAtom),ls.map (·.1)=b.map cI->((ls.filter (isNeg true)).map litAtm).map (·.1)=(b.filter λ A=>A.no).map pa:=by
  intro ls
  induction ls with
  | nil=>intro b hb;cases b with
   | nil=>rfl
   | cons x r=>cases hb
  | cons x q ih=>
   intro b hb
   cases b with
   | nil=>cases hb
   | cons A b=>
    rw[List.map_cons,List.map_cons] at hb;injection hb with h1 h2
    have:=ih b h2;rw[List.filter_cons,List.filter_cons];have hn:x.1.neg=A.no:=(by rw[h1];rfl);unfold isNeg at this ⊢;rw[hn]
    cases A.no with
    | false=>simpa using this
    | true=>
     simp only[if_true,beq_self_eq_true,List.map_cons];rw[this]
     congr 1
     show (⟨x.1.pd,x.1.ts⟩:PAtm)=pa A
     rw[h1];rfl
 exact this _ _ e
theorem dO.hd (h:dO R r):aO r=pa R.head:=by unfold aO;rw[h.eq];rfl
end
section
def Ext (e x:ax):Prop:=∀ v y,pAt e v=some y->pAt x v=some y
def Dom (e:ax)(a:PAtm):Prop:=∀ t∈a.ts,t.1=true->∃ x,pAt e t.2=some x
theorem Ext.refl (e:ax):Ext e e:=λ _ _ h=>h
theorem Ext.trans {a b c:ax}(h:Ext a b)(k:Ext b c):Ext a c:=λ v y hv=>k v y (h v y hv)
theorem Ext.nil (e:ax):Ext [] e:=λ v y h=>by cases h
theorem Ext.cd {e x:ax}(h:Ext e x){t:PTerm}(hd:t.1=true->∃ y,pAt e t.2=some y):cd x t=cd e t:=by
 unfold Go.Proofs.YtldkpahaocjdpaaGreat.cd
 split
 ·rename_i ht;obtain⟨y,hy⟩:=hd ht;unfold dD;rw[h _ _ hy,hy]
 ·rfl
variable {e x:ax}
theorem Ext.fill (h:Ext e x){a:PAtm}(hd:Dom e a):aB x a=aB e a:=
 Prod.ext rfl (List.map_congr_left λ t ht=>h.cd (hd t ht))
theorem Ext.IL (h:Ext e x){a:PAtm}(hd:Dom e a):Dom x a:=λ t ht hv=>let ⟨y,hy⟩:=hd t ht hv;⟨y,h _ _ hy⟩
variable {e':ax}
theorem pmT_fill {t:PTerm}{n:B8}(h:pmT e t n=some e'):Ext e e'/\cd e' t=n/\(t.1=true->∃ x,pAt e' t.2=some x):=by
 unfold pmT at h
 by_cases hv:t.1=true
 ·rw[if_pos hv] at h;unfold pmB at h
  cases hp:pAt e t.2 with
  | none=>
   rw[hp] at h
   cases h
   have h2:pAt (e++[(t.2,n)]) t.2=some n:=(by rw[pAt_snoc,hp];simp);refine⟨λ v x hx=>by rw[pAt_snoc,hx],?_,λ _=>⟨n,h2⟩⟩;unfold cd dD;rw[if_pos hv,h2];rfl
  | some x=>
   rw[hp] at h;simp only at h
   split at h
   ·rename_i hq
    cases h
    refine⟨Ext.refl _,?_,λ _=>⟨x,hp⟩⟩;unfold cd dD;rw[if_pos hv,hp];exact aW.1 hq
   ·cases h
 ·rw[if_neg hv] at h
  split at h
  ·rename_i hq
   cases h
   refine⟨Ext.refl _,?_,λ c=>absurd c hv⟩;unfold cd;rw[if_neg hv];exact aW.1 hq
  ·cases h
theorem pmT_to (hx:Ext e x){t:PTerm}(hd:t.1=true->∃ y,pAt x t.2=some y):∃ e',pmT e t (cd x t)=some e'/\Ext e' x:=by
 unfold pmT cd
 by_cases hv:t.1=true
 ·obtain⟨y,hy⟩:=hd hv;rw[if_pos hv,if_pos hv];unfold dD pmB;rw[hy];simp only[Option.getD_some]
  cases hp:pAt e t.2 with
  | none=>
   refine⟨_,rfl,λ v z hz=>?_⟩;rw[pAt_snoc] at hz
   cases hq:pAt e v with
   | some q=>rw[hq] at hz;cases hz;exact hx _ _ hq
   | none=>
    rw[hq] at hz;simp only at hz
    split at hz
    ·rename_i hc
     cases hz
     rw[<-aW.1 hc];exact hy
    ·cases hz
  | some q=>
   have:=hx _ _ hp;rw[hy] at this
   cases this
   exact⟨e,by simp,hx⟩
 ·rw[if_neg hv,if_neg hv];exact⟨e,by simp,hx⟩
theorem pmTs_fill:∀ (ts:List PTerm) (ns:List B8) (e e':ax),ts.length=ns.length->pmTs e ts ns=some e'->Ext e e'/\ts.map (cd e')=ns/\∀ t∈ts,t.1=true->∃ x,pAt e' t.2=some x
 | [],[],e,e',_,h=>by rw[pmTs] at h;cases h;exact⟨Ext.refl _,rfl,by simp⟩
 | [],_::_,_,_,hl,_=>by cases hl
 | _::_,[],_,_,hl,_=>by cases hl
 | t::ts,n::ns,e,e',hl,h=>by
  rw[pmTs] at h;simp only[List.headD_cons,List.tail_cons] at h
  cases h1:pmT e t n with
  | none=>rw[h1] at h;cases h
  | some e1=>
   rw[h1] at h;simp only at h;obtain⟨g1,b1,d1⟩:=pmT_fill h1;obtain⟨g2,b2,d2⟩:=pmTs_fill ts ns e1 e' (by simpa using hl) h;refine⟨g1.trans g2,?_,λ u hu hv=>?_⟩
   ·rw[List.map_cons,b2,g2.cd d1,b1]
   ·rcases List.mem_cons.1 hu with rfl | hu
    ·obtain⟨x,hx⟩:=d1 hv;exact⟨x,g2 _ _ hx⟩
    ·exact d2 u hu hv
theorem pmTs_to {x:ax}:∀ (ts:List PTerm) (e:ax),Ext e x->(∀ t∈ts,t.1=true->∃ y,pAt x t.2=some y)->∃ e',pmTs e ts (ts.map (cd x))=some e'/\Ext e' x
 | [],e,h,_=>⟨e,rfl,h⟩
 | t::ts,e,h,hd=>by
  obtain⟨e1,h1,g1⟩:=pmT_to h (hd t List.mem_cons_self);obtain⟨e2,h2,g2⟩:=pmTs_to ts e1 g1 (λ u hu=>hd u (List.mem_cons_of_mem _ hu));refine⟨e2,?_,g2⟩;rw[pmTs];simp only[List.map_cons,List.headD_cons,List.tail_cons];rw[h1];exact h2
def Fits (a:PAtm)(t:Th):Prop:=a.p=t.1->a.ts.length=t.2.length
variable {ps:P9}
theorem fits_of {a:PAtm}{t:Th}(ha:AtomG ps a)(ht:eE ps t):Fits a t:=λ e=>by
 have h1:=ha.num;rw[e,ht.num] at h1;exact (Option.some.inj h1).symm
theorem pmatch_fill {a:PAtm}{t:Th}(hf:Fits a t)(h:aG e a t=some e'):Ext e e'/\aB e' a=t/\Dom e' a:=by
 unfold aG at h
 split at h
 ·rename_i c;have hp:a.p=t.1:=aW.1 c;obtain⟨g,b,d⟩:=pmTs_fill a.ts t.2 e e' (hf hp) h;exact⟨g,Prod.ext hp b,d⟩
 ·cases h
theorem pmatch_to (hx:Ext e x){a:PAtm}(hd:Dom x a):∃ e',aG e a (aB x a)=some e'/\Ext e' x:=by
 obtain⟨e',h1,h2⟩:=pmTs_to a.ts e hx hd;refine⟨e',?_,h2⟩;unfold aG;rw[if_pos (by simp[aB])];exact h1
theorem pmatches_fill {K:List (Th × Nat)}:∀ (pos:List PAtm) (e x:ax),(∀ a∈pos,∀ p∈K,Fits a p.1)->x∈pmatches K pos e->Ext e x/\∀ a∈pos,Dom x a/\∃ n,(aB x a,n)∈K
 | [],e,x,_,h=>by
  rw[pmatches] at h;rw[List.mem_singleton.1 h];exact⟨Ext.refl _,by simp⟩
 | a::r,e,x,hf,h=>by
  rw[pmatches] at h;obtain⟨p,hp,h⟩:=List.mem_flatMap.1 h
  cases hm:aG e a p.1 with
  | none=>rw[hm] at h;simp at h
  | some e1=>
   rw[hm] at h;simp only at h;obtain⟨g1,b1,d1⟩:=pmatch_fill (hf a List.mem_cons_self p hp) hm;obtain⟨g2,b2⟩:=pmatches_fill r e1 x (λ y hy=>hf y (List.mem_cons_of_mem _ hy)) h;refine⟨g1.trans g2,λ y hy=>?_⟩;rcases List.mem_cons.1 hy with rfl | hy
   ·exact⟨g2.IL d1,p.2,by rw[g2.fill d1,b1];exact hp⟩
   ·exact b2 y hy
theorem pmatches_to {K:List (Th × Nat)}{x:ax}:∀ (pos:List PAtm) (e:ax),Ext e x->(∀ a∈pos,Dom x a/\∃ n,(aB x a,n)∈K)->∃ e'∈pmatches K pos e,Ext e' x
 | [],e,h,_=>⟨e,by rw[pmatches];exact List.mem_singleton.2 rfl,h⟩
 | a::r,e,h,hd=>by
  obtain⟨d,n,hn⟩:=hd a List.mem_cons_self;obtain⟨e1,h1,g1⟩:=pmatch_to h d;obtain⟨e2,h2,g2⟩:=pmatches_to r e1 g1 (λ y hy=>hd y (List.mem_cons_of_mem _ hy));refine⟨e2,?_,g2⟩;rw[pmatches];refine List.mem_flatMap.2 ⟨_,hn,?_⟩;rw[h1];exact h2
def rowOf (N:List (Th × Nat))(pos:List PAtm)(e:ax):List Nat:=pos.map λ a=>(ay N (aB e a)).getD 0
def rowsTo (N:List (Th × Nat))(r:PR)(t:Th):List (List Nat):=match aG [] (aO r) t with
 | none=>[]
 | some s=>(pways N (negOf r.bs) (posOf r.bs) s).map (rowOf N (posOf r.bs))
variable {N:List (Th × Nat)}
theorem rowOf_ext {pos:List PAtm}(h:Ext e x)(hd:∀ a∈pos,Dom e a):rowOf N pos x=rowOf N pos e:=
 List.map_congr_left λ a ha=>by rw[h.fill (hd a ha)]
theorem denied_ext {K:List (Th × Nat)}{neg:List PAtm}(h:Ext e x)(hd:∀ a∈neg,Dom e a):deniedB K neg x=deniedB K neg e:=by
 unfold deniedB;have:∀ l:List PAtm,(∀ a∈l,a∈neg)->(l.any λ a=>(ay K (aB x a)).isSome)=l.any λ a=>(ay K (aB e a)).isSome:=by
  intro l
  induction l with
  | nil=>intro _;rfl
  | cons a r ih=>intro hl;rw[List.any_cons,List.any_cons,ih (λ b hb=>hl b (List.mem_cons_of_mem _ hb)),h.fill (hd a (hl a List.mem_cons_self))]
 exact this neg (λ _ h=>h)
variable {r:PR}
theorem bF.qM (hg:bF ps r)(h:∀ a∈posOf r.bs,Dom e a):∀ a∈negOf r.bs,Dom e a:=λ a ha t ht hv=>by
 obtain⟨b,hb,Dr⟩:=hg.mQ a ha t ht hv;exact h b hb t Dr hv
theorem bF.tT (hg:bF ps r)(h:∀ a∈posOf r.bs,Dom e a):Dom e (aO r):=λ t ht hv=>by
 obtain⟨b,hb,Dr⟩:=hg.mP t ht hv;exact h b hb t Dr hv
theorem rowsTo_iff (hN:∀ p∈N,eE ps p.1)(hg:bF ps r){t:Th}(ht:eE ps t)(row:List Nat):row∈rowsTo N r t↔∃ e∈pways N (negOf r.bs) (posOf r.bs) [],aB e (aO r)=t/\rowOf N (posOf r.bs) e=row:=by
 have qW:∀ a∈posOf r.bs,∀ p∈N,Fits a p.1:=λ a ha p hp=>fits_of (hg.pos a ha) (hN p hp)
 constructor
 ·intro h;unfold rowsTo at h
  cases hs:aG [] (aO r) t with
  | none=>rw[hs] at h;cases h
  | some s=>
   rw[hs] at h;obtain⟨x,hx,rfl⟩:=List.mem_map.1 h;obtain⟨hx,ui⟩:=List.mem_filter.1 hx;obtain⟨-,b1,d1⟩:=pmatch_fill (fits_of hg.hd ht) hs;obtain⟨g2,b2⟩:=pmatches_fill _ _ _ qW hx;obtain⟨e,he,g3⟩:=pmatches_to (posOf r.bs) [] (Ext.nil x) b2;have d3:∀ a∈posOf r.bs,Dom e a:=λ a ha=>((pmatches_fill _ _ _ qW he).2 a ha).1
   refine⟨e,List.mem_filter.2 ⟨he,?_⟩,?_,(rowOf_ext g3 d3).symm⟩
   ·rw[<-denied_ext g3 (hg.qM d3)];exact ui
   ·rw[<-g3.fill (hg.tT d3),g2.fill d1,b1]
 ·rintro⟨e,he,hh,rfl⟩;obtain⟨he,ui⟩:=List.mem_filter.1 he;obtain⟨-,b2⟩:=pmatches_fill _ _ _ qW he;have d2:∀ a∈posOf r.bs,Dom e a:=λ a ha=>(b2 a ha).1
  obtain⟨s,hs,gs⟩:=pmatch_to (Ext.nil e) (hg.tT d2);rw[hh] at hs;obtain⟨x,hx,g3⟩:=pmatches_to (posOf r.bs) s gs b2;have d3:∀ a∈posOf r.bs,Dom x a:=λ a ha=>((pmatches_fill _ _ _ qW hx).2 a ha).1
  unfold rowsTo;rw[hs];refine List.mem_map.2 ⟨x,List.mem_filter.2 ⟨hx,?_⟩,(rowOf_ext g3 d3).symm⟩;rw[<-denied_ext g3 (hg.qM d3)];exact ui
end
end Go.Proofs.YtldkpahaocjdpaaGreat
