/-
  Plain: what a rule says, in the reference's words and in the program's.
-/
import Derived.Test.YtldkpahaocjdpaaGreatR28
import Derived.Calls
set_option maxHeartbeats 16000000
set_option maxRecDepth 1000000
namespace Go.Proofs.YtldkpahaocjdpaaGreat
section
theorem pAt_snoc (v n u:B8):∀ e:ax,pAt (e++[(v,n)]) u=match pAt e u with | some x=>some x | none=>if v.toList==u.toList then some n else none
 | []=>by rw[List.nil_append,pAt,pAt];simp[pAt]
 | x::r=>by
  rw[List.cons_append,pAt,pAt]
  by_cases c:(x.1.toList==u.toList)=true
  ·rw[if_pos c,if_pos c]
  ·rw[if_neg c,if_neg c];exact pAt_snoc v n u r
structure ie (e e':ax)(k:Nat):Prop where
 w:gq e'
 len:e'.length<=e.length+k
 ext:∀ v x,pAt e v=some x->pAt e' v=some x
variable {e:ax}
theorem ie.refl (h:gq e):ie e e 0:=⟨h,by omega,λ _ _ h=>h⟩
variable {e':ax}
theorem pmT_env {t:PTerm}{n:B8}(hn:cY n)(he:gq e)(h:pmT e t n=some e'):ie e e' 1/\(t.1=true->∃ x,pAt e' t.2=some x):=by
 unfold pmT at h
 by_cases hv:t.1=true
 ·rw[if_pos hv] at h;unfold pmB at h
  cases hp:pAt e t.2 with
  | none=>
   rw[hp] at h
   cases h
   refine⟨⟨he.snoc hn,by simp,λ v x hx=>by rw[pAt_snoc,hx]⟩,λ _=>⟨n,?_⟩⟩;rw[pAt_snoc,hp];simp
  | some x=>
   rw[hp] at h;simp only at h
   split at h
   ·cases h;exact⟨⟨he,by omega,λ _ _ h=>h⟩,λ _=>⟨x,hp⟩⟩
   ·cases h
 ·rw[if_neg hv] at h
  split at h
  ·cases h;exact⟨⟨he,by omega,λ _ _ h=>h⟩,λ c=>absurd c hv⟩
  ·cases h
theorem pmTs_env:∀ (ts:List PTerm) (ns:List B8) (e e':ax),ts.length=ns.length->(∀ x∈ns,cY x)->gq e->pmTs e ts ns=some e'->ie e e' ts.length/\∀ t∈ts,t.1=true->∃ x,pAt e' t.2=some x
 | [],_,e,e',_,_,he,h=>by
  rw[pmTs] at h
  cases h
  exact⟨ie.refl he,by simp⟩
 | t::ts,[],_,_,hl,_,_,_=>by cases hl
 | t::ts,n::ns,e,e',hl,hn,he,h=>by
  rw[pmTs] at h;simp only[List.headD_cons,List.tail_cons] at h
  cases h1:pmT e t n with
  | none=>rw[h1] at h;cases h
  | some e1=>
   rw[h1] at h;simp only at h;obtain⟨g1,b1⟩:=pmT_env (hn n List.mem_cons_self) he h1;obtain⟨g2,b2⟩:=pmTs_env ts ns e1 e' (by simpa using hl) (λ x hx=>hn x (List.mem_cons_of_mem _ hx)) g1.w h;refine⟨⟨g2.w,by have:=g1.len;have:=g2.len;simp;omega,λ v x hx=>g2.ext v x (g1.ext v x hx)⟩,λ u hu hv=>?_⟩;rcases List.mem_cons.1 hu with rfl | hu
   ·obtain⟨x,hx⟩:=b1 hv;exact⟨x,g2.ext _ _ hx⟩
   ·exact b2 u hu hv
variable {ps:P9}
theorem pmatch_env {a:PAtm}{t:Th}(ha:AtomG ps a)(ht:eE ps t)(he:gq e)(h:aG e a t=some e'):ie e e' 4/\∀ t∈a.ts,t.1=true->∃ x,pAt e' t.2=some x:=by
 unfold aG at h
 split at h
 ·rename_i c;have hp:a.p=t.1:=aW.1 c;have hl:a.ts.length=t.2.length:=by
   have h1:=ha.num;rw[hp,ht.num] at h1;exact (Option.some.inj h1).symm
  obtain⟨g,b⟩:=pmTs_env a.ts t.2 e e' hl ht.w.ts he h;exact⟨⟨g.w,by have:=g.len;have:=ha.w.ft;omega,g.ext⟩,b⟩
 ·cases h
theorem pmatches_env {ps:P9}{K:List (Th × Nat)}(hK:∀ p∈K,eE ps p.1):∀ (pos:List PAtm) (e0 e:ax),(∀ a∈pos,AtomG ps a)->gq e0->e∈pmatches K pos e0->ie e0 e (4*pos.length)/\∀ a∈pos,∀ t∈a.ts,t.1=true->∃ x,pAt e t.2=some x
 | [],e0,e,_,he,h=>by
  rw[pmatches] at h;rw[List.mem_singleton.1 h];exact⟨ie.refl he,by simp⟩
 | a::r,e0,e,ha,he,h=>by
  rw[pmatches] at h;obtain⟨p,hp,h⟩:=List.mem_flatMap.1 h
  cases hm:aG e0 a p.1 with
  | none=>rw[hm] at h;simp at h
  | some e1=>
   rw[hm] at h;simp only at h;obtain⟨g1,b1⟩:=pmatch_env (ha a List.mem_cons_self) (hK p hp) he hm;obtain⟨g2,b2⟩:=pmatches_env hK r e1 e (λ x hx=>ha x (List.mem_cons_of_mem _ hx)) g1.w h;refine⟨⟨g2.w,by have:=g1.len;have:=g2.len;simp;omega,λ v x hx=>g2.ext v x (g1.ext v x hx)⟩,λ x hx t ht hv=>?_⟩;rcases List.mem_cons.1 hx with rfl | hx
   ·obtain⟨y,hy⟩:=b1 t ht hv;exact⟨y,g2.ext _ _ hy⟩
   ·exact b2 x hx t ht hv
theorem fill_good {A:PAtm}(hA:AtomG ps A)(he:gq e)(hb:∀ t∈A.ts,t.1=true->∃ x,pAt e t.2=some x):eE ps (aB e A):=by
 refine⟨⟨hA.w.pd,λ x hx=>?_⟩,?_,?_⟩
 ·obtain⟨t,ht,rfl⟩:=List.mem_map.1 hx;unfold cd
  split
  ·rename_i hv;obtain⟨x,h1⟩:=hb t ht hv;unfold dD;rw[h1];exact pAt_word he h1
  ·exact hA.w.ts t ht
 ·show numOf ps A.p=some (A.ts.map (cd e)).length
  rw[List.length_map];exact hA.num
 ·show (A.ts.map (cd e)).length<=4
  rw[List.length_map];exact hA.w.ft
theorem eE.ok {t:Th}(h:eE ps t):ThOk t:=
 ⟨by have:=h.w.pd.le;show t.1.size<=_;omega,h.ft,λ x hx=>by have:=(h.w.ts x hx).le;omega,λ x hx=>(h.w.ts x hx).ne⟩
theorem mem_pos {ls:List (PLit × Value)}{a:PAtm}:a∈posOf ls↔∃ x∈ls,x.1.neg=false/\a=⟨x.1.pd,x.1.ts⟩:=by
 unfold posOf aC;simp only[List.map_map,List.mem_map,List.mem_filter,Function.comp_def,litAtm,isNeg]
 constructor
 ·rintro⟨x,⟨h1,h2⟩,rfl⟩;exact⟨x,h1,by simpa using h2,rfl⟩
 ·rintro⟨x,h1,h2,rfl⟩;exact⟨x,⟨h1,by simp[h2]⟩,rfl⟩
theorem mem_neg {ls:List (PLit × Value)}{a:PAtm}:a∈negOf ls↔∃ x∈ls,x.1.neg=true/\a=⟨x.1.pd,x.1.ts⟩:=by
 unfold negOf aC;simp only[List.map_map,List.mem_map,List.mem_filter,Function.comp_def,litAtm,isNeg]
 constructor
 ·rintro⟨x,⟨h1,h2⟩,rfl⟩;exact⟨x,h1,by simpa using h2,rfl⟩
 ·rintro⟨x,h1,h2,rfl⟩;exact⟨x,⟨h1,by simp[h2]⟩,rfl⟩
structure bF (ps:P9)(r:PR):Prop where
 l3:r.bs.length<=3
 hd:AtomG ps (aO r)
 ls:∀ x∈r.bs,AtomG ps ⟨x.1.pd,x.1.ts⟩
 mP:∀ t∈(aO r).ts,t.1=true->∃ a∈posOf r.bs,t∈a.ts
 mQ:∀ x∈negOf r.bs,∀ t∈x.ts,t.1=true->∃ a∈posOf r.bs,t∈a.ts
variable {r:PR}
theorem bF.pos (h:bF ps r):∀ a∈posOf r.bs,AtomG ps a:=λ a ha=>by
 obtain⟨x,hx,_,rfl⟩:=mem_pos.1 ha;exact h.ls x hx
theorem bF.neg (h:bF ps r):∀ a∈negOf r.bs,AtomG ps a:=λ a ha=>by
 obtain⟨x,hx,_,rfl⟩:=mem_neg.1 ha;exact h.ls x hx
theorem pos_len (ls:List (PLit × Value)):(posOf ls).length<=ls.length:=by
 unfold posOf aC;rw[List.length_map,List.length_map];exact List.length_filter_le _ _
theorem envW_nil:gq []:=λ p hp=>by cases hp
structure WayG (ps:P9)(r:PR)(e:ax):Prop where
 w:gq e
 len:e.length<=12
 hd:eE ps (aB e (aO r))
 neg:∀ x∈negOf r.bs,eE ps (aB e x)
theorem bF.rE (h:bF ps r){K:List (Th × Nat)}(hK:∀ p∈K,eE ps p.1)(he:e∈pmatches K (posOf r.bs) []):WayG ps r e:=by
 obtain⟨g,b⟩:=pmatches_env hK (posOf r.bs) [] e h.pos envW_nil he;refine⟨g.w,?_,fill_good h.hd g.w λ t ht hv=>?_,λ x hx=>fill_good (h.neg x hx) g.w λ t ht hv=>?_⟩
 ·have h1:=g.len;have h2:=pos_len r.bs;have h3:=h.l3;rw[List.length_nil] at h1;omega
 ·obtain⟨a,ha,zu⟩:=h.mP t ht hv;exact b a ha t zu hv
 ·obtain⟨a,ha,zu⟩:=h.mQ x hx t ht hv;exact b a ha t zu hv
theorem closed_of {rs:List PR}(h:∀ r∈rs,bF ps r):dr rs (eE ps):=λ _ hK r hr=>
 have g:=h r hr
 ⟨⟨g.l3,λ x hx=>(g.ls x hx).w.ft,g.hd.w.ft,λ _ he x hx=>((g.rE hK he).neg x hx).ok,λ _ he=>(g.rE hK he).hd.ok,λ _ he=>(g.rE hK he).len⟩,λ _ he=>(g.rE hK he).hd⟩
theorem th_len {t:Th}(h:eE ps t):(atomT t.1 (thTerms t)).length<=1000000000:=by
 have h1:=rtermsT_len (thTerms t) 0 (λ x hx=>by have:=(h.w.aS x hx).le;omega);have h2:(thTerms t).length=t.2.length:=by unfold thTerms;simp
 have h3:=h.ft;have h4:=h.w.pd.le;have h5:=size_list t.1;unfold atomT;rw[List.length_append,List.length_append];have h6:(if (thTerms t).length=0 then ([]:List UInt8) else [41]).length<=1:=by split <;> simp
 have h7:(thTerms t).length*1001<=4*1001:=Nat.mul_le_mul_right _ (by omega);omega
end
section
def posB (b:List RAtom):List PAtm:=(b.filter λ A=>!A.no).map pa
def negsB (b:List RAtom):List PAtm:=(b.filter λ A=>A.no).map pa
structure dO (R:RRule)(r:PR):Prop where
 eq:r.R=pruleOf R
 bd:r.bs.map (·.1)=r.R.body
variable {r:PR} {R:RRule}
theorem dO.pos (h:dO R r):posOf r.bs=posB R.body:=by
 have e:r.bs.map (·.1)=R.body.map cI:=by rw[h.bd,h.eq];rfl
 unfold posOf aC posB;have:∀ (ls:List (PLit × Value)) (b:List RAtom),ls.map (·.1)=b.map cI->((ls.filter (isNeg false)).map litAtm).map (·.1)=(b.filter λ A=>!A.no).map pa:=by
  intro ls
  induction ls with
  | nil=>intro b hb;cases b with
   | nil=>rfl
   | cons x r=>cases hb
  | cons x q ih=>
   intro b hb
   cases b with
   | nil=>cases hb
   | cons A b=>
    rw[List.map_cons,List.map_cons] at hb;injection hb with h1 h2
    have:=ih b h2;rw[List.filter_cons,List.filter_cons];have hn:x.1.neg=A.no:=(by rw[h1];rfl);unfold isNeg at this ⊢;rw[hn]
    cases A.no with
    | true=>simpa using this
    | false=>
     simp only[Bool.not_false,if_true,beq_self_eq_true,List.map_cons];rw[this]
     congr 1
     show (⟨x.1.pd,x.1.ts⟩:PAtm)=pa A
     rw[h1];rfl
 exact this _ _ e
theorem dO.neg {R:RRule}{r:PR}(h:dO R r):negOf r.bs=negsB R.body:=by
 have e:r.bs.map (·.1)=R.body.map cI:=by rw[h.bd,h.eq];rfl
 unfold negOf aC negsB;have:∀ (ls:List (PLit × Value)) (b:List RAtom),ls.map (·.1)=b.map cI->((ls.filter (isNeg true)).map litAtm).map (·.1)=(b.filter λ A=>A.no).map pa:=by
  intro ls
  induction ls with
  | nil=>intro b hb;cases b with
   | nil=>rfl
   | cons x r=>cases hb
  | cons x q ih=>
   intro b hb
   cases b with
   | nil=>cases hb
   | cons A b=>
    rw[List.map_cons,List.map_cons] at hb;injection hb with h1 h2
    have:=ih b h2;rw[List.filter_cons,List.filter_cons];have hn:x.1.neg=A.no:=(by rw[h1];rfl);unfold isNeg at this ⊢;rw[hn]
    cases A.no with
    | false=>simpa using this
    | true=>
     simp only[if_true,beq_self_eq_true,List.map_cons];rw[this]
     congr 1
     show (⟨x.1.pd,x.1.ts⟩:PAtm)=pa A
     rw[h1];rfl
 exact this _ _ e
theorem dO.hd (h:dO R r):aO r=pa R.head:=by unfold aO;rw[h.eq];rfl
end
section
structure RulesRel (ps:P9)(rs:List RRule)(rp:List PR):Prop where
 fwd:∀ R∈rs,∃ r∈rp,dO R r
 bwd:∀ r∈rp,∃ R∈rs,dO R r
 dh:∀ r∈rp,bF ps r
end
section
open Go.RowKit
def askAtom (s:B8):RAtom:=⟨(tok s 0).text,(atomRest s 0 (-1)).1,false,(tok s 0).at_,0⟩
def askEnd (s:B8):Bool:=decide ((atomRest s 0 (-1)).2.2<0)&&(tok s (atomRest s 0 (-1)).2.1).kind==46
def askOk (ps:P9)(s:B8):Bool:=askEnd s&&meetB ps (tok s 0).text (atomRest s 0 (-1)).1.length
end
section
theorem num_meetL:∀ (L ps:P9),AgreeL L ps->(∀ k n,numOf ps k=some n->numOf (meetL L ps) k=some n)/\∀ x∈L,numOf (meetL L ps) x.1=some x.2
 | [],ps,_=>⟨λ _ _ h=>h,by simp⟩
 | x::r,ps,h=>by
  obtain⟨h1,h2⟩:=h;obtain⟨i1,i2⟩:=num_meetL r (meetP ps x.1 x.2) h2;rw[meetL];have hx:numOf (meetP ps x.1 x.2) x.1=some x.2:=by rw[numOf_meet h1,if_pos rfl]
  refine⟨λ k n hk=>i1 k n ?_,λ y hy=>?_⟩
  ·rw[numOf_meet h1]
   by_cases e:k=x.1
   ·rw[if_pos e];rw[meetB_num] at h1;rw[e] at hk;rw[hk] at h1;have h3:n=x.2:=(by simpa using h1);rw[h3]
   ·rw[if_neg e];exact hk
  ·rcases List.mem_cons.1 hy with rfl | hy
   ·exact i1 _ _ hx
   ·exact i2 y hy
theorem said_of {body:List RAtom}:∀ (ts:List RTerm),looseI body ts<0->∀ t∈ts,t.isVar=true->saidB t.text body=true
 | [],_,t,ht,_=>by cases ht
 | u::r,h,t,ht,hv=>by
  rw[looseI] at h
  split at h
  ·omega
  ·rename_i c;rcases List.mem_cons.1 ht with rfl | ht
   ·simp only[hv,Bool.true_and,Bool.not_eq_true',Bool.not_eq_false] at c;exact c
   ·exact said_of r h t ht hv
theorem loose_body {body:List RAtom}:∀ (l:List RAtom),looseBody body l<0->∀ A∈l,A.no=true->looseI body A.aS<0
 | [],_,A,hA,_=>by cases hA
 | B::r,h,A,hA,hn=>by
  rw[looseBody] at h
  by_cases c:0<=(if B.no then looseI body B.aS else -1)
  ·rw[if_pos c] at h
   by_cases hb:B.no=true
   ·rw[if_pos hb] at c;omega
   ·rw[if_neg hb] at c;omega
  ·rw[if_neg c] at h;rcases List.mem_cons.1 hA with rfl | hA
   ·rw[if_pos hn] at c;omega
   ·exact loose_body r h A hA hn
theorem unsafe_rule:∀ (rs:List RRule),unsafeI rs<0->∀ R∈rs,looseI R.body R.head.aS<0/\looseBody R.body R.body<0
 | [],_,R,hR=>by cases hR
 | Q::r,h,R,hR=>by
  rw[unsafeI] at h
  split at h
  ·omega
  ·rename_i c;rcases List.mem_cons.1 hR with rfl | hR
   ·unfold looseRule at c
    split at c
    ·omega
    ·constructor <;> omega
   ·exact unsafe_rule r h R hR
theorem said_mem {body:List RAtom}{v:B8}(h:saidB v body=true):∃ a∈posB body,((true,v):PTerm)∈a.ts:=by
 unfold saidB at h;obtain⟨A,hA,h⟩:=List.any_eq_true.1 h;unfold saidA at h;simp only[Bool.and_eq_true,List.any_eq_true] at h;obtain⟨hn,u,hu,hx⟩:=h;unfold j6 at hx;simp only[Bool.and_eq_true] at hx;have e:u.text=v:=aW.1 hx.2;refine⟨pa A,List.mem_map.2 ⟨A,List.mem_filter.2 ⟨hA,hn⟩,rfl⟩,List.mem_map.2 ⟨u,hu,?_⟩⟩;unfold dI;rw[hx.1,e]
variable {s:B8}
theorem safe_of (h:(refLoad s).1=true):unsafeI (parsed s).1<0:=by
 unfold refLoad at h
 by_cases c0:800<s.size
 ·rw[if_pos c0] at h;cases h
 rw[if_neg c0] at h
 by_cases c1:0<=(parsed s).2.2
 ·rw[if_pos c1] at h;cases h
 rw[if_neg c1] at h
 by_cases c2:0<=(aj s).1
 ·rw[if_pos c2] at h;cases h
 rw[if_neg c2] at h
 by_cases c3:0<=unsafeI (parsed s).1
 ·rw[if_pos c3] at h;cases h
 omega
theorem rules_rel (h:(refLoad s).1=true){rp:List PR}(jC:rp.map (·.R)=(pparsed s).2.2.1)(cT:∀ r∈rp,r.bs.map (·.1)=r.R.body):RulesRel (aj s).2 (parsed s).1 rp:=by
 have g:=good_of h;have F4:=g.rules;have sK:=unsafe_rule _ (safe_of h);have je:∀ x∈(pparsed s).2.2.1.flatMap aZ,numOf (aj s).2 x.1=some x.2:=by
  have:=(num_meetL _ _ g.agree).2;rw[g.met] at this;exact this
 have yn:∀ r∈rp,∃ R∈(parsed s).1,dO R r:=λ r hr=>by
  have:r.R∈(parsed s).1.map pruleOf:=by rw[<-F4,<-jC];exact List.mem_map.2 ⟨r,hr,rfl⟩
  obtain⟨R,hR,e⟩:=List.mem_map.1 this;exact⟨R,hR,e.symm,cT r hr⟩
 refine⟨λ R hR=>?_,yn,λ r hr=>?_⟩
 ·have:pruleOf R∈rp.map (·.R):=by rw[jC,F4];exact List.mem_map.2 ⟨R,hR,rfl⟩
  obtain⟨r,hr,e⟩:=List.mem_map.1 this;exact⟨r,hr,e,cT r hr⟩
 ·obtain⟨R,hR,hrel⟩:=yn r hr;have ak:r.R∈(pparsed s).2.2.1:=by rw[<-jC];exact List.mem_map.2 ⟨r,hr,rfl⟩
  have hw:=pparsed_word s r.R ak;have hb:=g.body r.R ak;have nD:∀ x∈r.bs,x.1∈r.R.body:=λ x hx=>by rw[<-cT r hr];exact List.mem_map.2 ⟨x,hx,rfl⟩
  refine⟨?_,⟨hw.1,je (r.R.pd,r.R.ts.length) (List.mem_flatMap.2 ⟨r.R,ak,by simp[aZ]⟩)⟩,λ x hx=>⟨hw.2 _ (nD x hx),je (x.1.pd,x.1.ts.length) (List.mem_flatMap.2 ⟨r.R,ak,?_⟩)⟩,λ t ht hv=>?_,λ x hx t ht hv=>?_⟩
  ·rw[<-cT r hr,List.length_map] at hb;exact hb
  ·simp only[aZ,List.mem_cons,List.mem_map];exact .inr ⟨x.1,nD x hx,rfl⟩
  ·rw[hrel.hd] at ht;obtain⟨u,hu,rfl⟩:=List.mem_map.1 ht;have uV:u.isVar=true:=hv;have:=said_mem (said_of _ (sK R hR).1 u hu uV);rw[hrel.pos];unfold dI;rw[uV];exact this
  ·rw[hrel.neg] at hx;obtain⟨A,hA,rfl⟩:=List.mem_map.1 hx;obtain⟨hA,hn⟩:=List.mem_filter.1 hA;obtain⟨u,hu,rfl⟩:=List.mem_map.1 ht;have uV:u.isVar=true:=hv;have:=said_mem (said_of _ (loose_body _ (sK R hR).2 A hA hn) u hu uV);rw[hrel.pos];unfold dI;rw[uV];exact this
theorem pask_eq (q:B8):paskS q=if askEnd q then some (pa (askAtom q)) else none:=by
 have h:=atom_eq q 0 (-1) (by decide) (Nat.zero_le _);unfold paskS askEnd
 cases hP:patomS q 0 with
 | no r=>
  rw[hP] at h;have h':(atomRest q 0 (-1)).2.2=((ae q r).2.1:Int):=h;rw[h',if_neg];simp;intro h;omega
 | yes p pd ts pl=>
  rw[hP] at h;obtain⟨h1,h2,h3,_,h5⟩:=h;rw[h1];have K:=kinds q p h5;have e:(⟨pd,ts⟩:PAtm)=pa (askAtom q):=by rw[h2,h3];rfl
  simp only
  by_cases c:(tok q p).kind=46
  ·rw[if_pos (K.k0.2 c),if_pos (by simp[c]),e]
  ·rw[if_neg (λ h=>c (K.k0.1 h)),if_neg (by simp[c])]
theorem pask_word {q:B8}{A:PAtm}(h:paskS q=some A):AtomW A.p A.ts:=by
 unfold paskS at h
 split at h
 ·cases h
 ·rename_i p pd ts pl hp
  split at h
  ·cases h;exact dY hp
  ·cases h
theorem suits_meet (ps:P9)(A:PAtm):suitsB ps A=meetB ps A.p A.ts.length:=by
 unfold suitsB
 cases hn:numOf ps A.p with
 | none=>exact (by rw[meetB_num,hn]:meetB ps A.p A.ts.length=true) ▸ rfl
 | some m=>
  by_cases e:m=A.ts.length
  ·have:meetB ps A.p A.ts.length=true:=by rw[meetB_num,hn,e];simp
   rw[this];simp[e]
  ·have:¬ meetB ps A.p A.ts.length=true:=by rw[meetB_num,hn];simpa using e
   simp[e,this]
theorem asked_eq (ps:P9)(q:B8):askedS ps q=if askOk ps q then some (pa (askAtom q)) else none:=by
 unfold askedS askOk;rw[pask_eq]
 by_cases c:askEnd q=true
 ·rw[if_pos c,c];simp only[Bool.true_and];rw[suits_meet];have:(pa (askAtom q)).ts.length=(atomRest q 0 (-1)).1.length:=by simp[pa,askAtom]
  rw[this];rfl
 ·rw[if_neg c];have:askEnd q=false:=by simpa using c
  rw[this];simp
end
section
def lexB:List Nat->List Nat->Bool
 | [],[]=>false
 | [],_::_=>true
 | _::_,[]=>false
 | a::x,b::y=>if a<b then true else if b<a then false else lexB x y
theorem gI:∀ x:List Nat,lexB x x=false
 | []=>rfl
 | a::x=>by rw[lexB,if_neg (Nat.lt_irrefl a),if_neg (Nat.lt_irrefl a)];exact gI x
theorem lexB_trans:∀ {x y z:List Nat},lexB x y=true->lexB y z=true->lexB x z=true
 | [],[],_,h,_=>by cases h
 | [],_::_,[],_,h=>by cases h
 | [],_::_,_::_,_,_=>rfl
 | _::_,[],_,h,_=>by cases h
 | _::_,_::_,[],_,h=>by cases h
 | a::x,b::y,c::z,h,k=>by
  rw[lexB] at h k ⊢
  by_cases h1:a<b
  ·by_cases h2:b<c
   ·rw[if_pos (by omega)]
   ·rw[if_neg h2] at k
    by_cases h3:c<b
    ·rw[if_pos h3] at k;cases k
    ·rw[if_pos (by omega)]
  ·rw[if_neg h1] at h
   by_cases h4:b<a
   ·rw[if_pos h4] at h;cases h
   ·rw[if_neg h4] at h;have:a=b:=by omega
    subst this
    by_cases h2:a<c
    ·rw[if_pos h2]
    ·rw[if_neg h2] at k ⊢
     by_cases h3:c<a
     ·rw[if_pos h3] at k;cases k
     ·rw[if_neg h3] at k ⊢;exact lexB_trans h k
theorem lexB_eq:∀ {x y:List Nat},lexB x y=false->lexB y x=false->x=y
 | [],[],_,_=>rfl
 | [],_::_,h,_=>by cases h
 | _::_,[],_,h=>by cases h
 | a::x,b::y,h,k=>by
  rw[lexB] at h k
  by_cases h1:a<b
  ·rw[if_pos h1] at h;cases h
  ·by_cases h2:b<a
   ·rw[if_pos h2] at k;cases k
   ·rw[if_neg h1,if_neg h2] at h;rw[if_neg h2,if_neg h1] at k;rw[lexB_eq h k,show a=b by omega]
def cmpN (x y:Nat):Int:=if x<y then -1 else if y<x then 1 else 0
def lexC:List Nat->List Nat->Int
 | [],[]=>0
 | [],_::_=>-1
 | _::_,[]=>1
 | a::x,b::y=>if cmpN a b=0 then lexC x y else cmpN a b
theorem lexC_neg:∀ x y:List Nat,lexC x y<0↔lexB x y=true
 | [],[]=>by simp[lexC,lexB]
 | [],_::_=>by simp[lexC,lexB]
 | _::_,[]=>by simp[lexC,lexB]
 | a::x,b::y=>by
  have ih:=lexC_neg x y;rw[lexC,lexB];unfold cmpN
  by_cases h1:a<b
  ·simp[h1]
  ·by_cases h2:b<a
   ·simp[h1,h2]
   ·simp only[if_neg h1,if_neg h2,if_true];exact ih
end
section
open Go.RowKit
def cO (l:List Nat):V8:=l.map λ (x:Nat)=>Value.int .i64 x
theorem numAt {w:W8}{base:Nat}{a:O8}{c:Nat}{xs:List Nat}(h:w.ownsRow base 3 1 (.slice a xs.length c) xs.length (cO xs))(k:Nat)(hk:k<xs.length):∃ g,a=some ⟨g,0,none⟩/\g<w.heap.size/\xs.length<=c/\c<=maxLen/\w.cell? ⟨g,k,none⟩=some (.int .i64 xs[k]):=by
 rcases h.2 with⟨_,h0⟩ | ⟨g,cap,cur,hv,hb,hg,dG,dx,eZ,ht⟩
 ·omega
 ·injection hv with h1 h2 h3
  subst h1 h3;refine⟨g,rfl,(Array.getElem?_eq_some_iff.1 hg).1,dG,dx,?_⟩;rw[h.cellAt k (by omega)];unfold cO;rw[List.getElem?_map,List.getElem?_eq_getElem hk];rfl
theorem isNaNI_any (x:Int)(w:W8):Calls Tryz.prog 216 #[.int .i64 x] w λ e w'=>e=.returned (.bool false)/\w'=w:=by
 go_enter Tryz.func216,Tryz.ntmps216;go_wp2_with fail;go_ret;exact⟨by simp,rfl⟩
theorem compareI_any (x y:Nat)(w:W8):Calls Tryz.prog 161 #[.int .i64 x,.int .i64 y] w λ e w'=>e=.returned (.int .i64 (cmpN x y))/\w'=w:=by
 have hn:=isNaNI_any
 by_cases h1:x<y
 ·have HC:=hide (show cmpN x y=-1 by unfold cmpN;rw[if_pos h1]);have hi:(x:Int)<y:=by omega
  clear h1;go_enter Tryz.func161,Tryz.ntmps161;go_wp2_with (go_at_call 216;refine (hn _ _).mono ?_;rintro e w' ⟨rfl,rfl⟩);go_ret;exact⟨by rw[ad HC];rfl,rfl⟩
 ·by_cases h2:y<x
  ·have HC:=hide (show cmpN x y=1 by unfold cmpN;rw[if_neg h1,if_pos h2]);have hi:¬ (x:Int)<y:=(by omega);have hj:(y:Int)<x:=(by omega);clear h1 h2;go_enter Tryz.func161,Tryz.ntmps161;go_wp2_with (go_at_call 216;refine (hn _ _).mono ?_;rintro e w' ⟨rfl,rfl⟩);go_ret;exact⟨by rw[ad HC];rfl,rfl⟩
  ·have HC:=hide (show cmpN x y=0 by unfold cmpN;rw[if_neg h1,if_neg h2]);have hi:¬ (x:Int)<y:=(by omega);have hj:¬ (y:Int)<x:=(by omega);clear h1 h2;go_enter Tryz.func161,Tryz.ntmps161;go_wp2_with (go_at_call 216;refine (hn _ _).mono ?_;rintro e w' ⟨rfl,rfl⟩);go_ret;exact⟨by rw[ad HC];rfl,rfl⟩
theorem lexC_step {x y:List Nat}{k:Nat}(hx:k<x.length)(hy:k<y.length):lexC (x.drop k) (y.drop k)=if cmpN x[k] y[k]=0 then lexC (x.drop (k+1)) (y.drop (k+1)) else cmpN x[k] y[k]:=by
 rw[List.drop_eq_getElem_cons hx,List.drop_eq_getElem_cons hy,lexC]
theorem compareL_any (w:W8)(base base':Nat)(a b:O8)(c d:Nat)(x y:List Nat)(hx:w.ownsRow base 3 1 (.slice a x.length c) x.length (cO x))(hy:w.ownsRow base' 3 1 (.slice b y.length d) y.length (cO y)):
  Calls Tryz.prog 166 #[.slice a x.length c,.slice b y.length d] w λ e w'=>e=.returned (.int .i64 (lexC x y))/\w'=w:=by
 have HX:=hide hx;have HY:=hide hy;have m1:=own_max hx;have m2:=own_max hy;unfold maxLen at m1 m2;clear hx hy;go_enter Tryz.func166,Tryz.ntmps166;go_wp2_with fail
 go_loop [11] (λ i=>∃ k:Nat,k<=x.length/\k<=y.length/\i=.int .i64 k/\lexC (x.drop k) (y.drop k)=lexC x y) (λ i=>x.length-(intOf i).toNat)
 exact⟨0,Nat.zero_le _,Nat.zero_le _,rfl,rfl⟩
 case round=>
  obtain⟨k,hk,cN,rfl,bj⟩:=hrel;have HF:=hide bj;clear bj
  by_cases aN:k<x.length
  ·obtain⟨g,rfl,nB,dG,dx,hc⟩:=numAt (ad HX) k aN;have gW:(k:Int)<x.length:=by omega
   by_cases lG:k<y.length
   ·obtain⟨g2,rfl,dd,JP,Je,nA⟩:=numAt (ad HY) k lG;have CJ:(k:Int)<y.length:=(by omega);have HS:=hide (lexC_step aN lG);have HC:=hide (λ w=>compareI_any x[k] y[k] w);generalize x[k]=xk at *;generalize y[k]=yk at *
    by_cases h0:cmpN xk yk=0
    ·have HE:=hide (show lexC (x.drop (k+1)) (y.drop (k+1))=lexC x y by rw[<-ad HF,ad HS,if_pos h0]);rw[h0] at HC;clear h0;go_wp2_with (go_at_call 161;refine (ad HC _).mono ?_;rintro e w' ⟨rfl,rfl⟩)
     go_round
     case rel=>exact⟨k+1,by omega,by omega,by go_num,ad HE⟩
     case measure=>simp[intOf];omega
    ·have HE:=hide (show lexC x y=cmpN xk yk by rw[<-ad HF,ad HS,if_neg h0]);generalize cmpN xk yk=r at *;go_wp2_with (go_at_call 161;refine (ad HC _).mono ?_;rintro e w' ⟨rfl,rfl⟩);go_ret;exact⟨by rw[ad HE];rfl,rfl⟩
   ·have CJ:¬ (k:Int)<y.length:=(by omega);have hle:(y.length:Int)<=k:=(by omega);have HE:=hide (show lexC x y=1 by rw[<-ad HF,List.drop_eq_getElem_cons aN,List.drop_of_length_le (l:=y) (by omega)];rfl);go_wp2_with fail;go_ret;exact⟨by rw[ad HE];rfl,rfl⟩
  ·have gW:¬ (k:Int)<x.length:=by omega
   by_cases lG:x.length<y.length
   ·have qj:(x.length:Int)<y.length:=(by omega);have HE:=hide (show lexC x y=-1 by rw[<-ad HF,List.drop_of_length_le (l:=x) (by omega),List.drop_eq_getElem_cons (l:=y) (by omega)];rfl);go_wp2_with fail;go_ret;exact⟨by rw[ad HE];rfl,rfl⟩
   ·have qj:¬ (x.length:Int)<y.length:=(by omega);have HE:=hide (show lexC x y=0 by rw[<-ad HF,List.drop_of_length_le (l:=x) (by omega),List.drop_of_length_le (l:=y) (by omega)];rfl);go_wp2_with fail;go_ret;exact⟨by rw[ad HE];rfl,rfl⟩
def orC (a b c:Int):Int:=if a≠0 then a else if b≠0 then b else c
theorem or3_any (w:W8)(g:Nat)(a b c:Int)(h:w.heap[g]?=some (.cells #[.int .i64 a,.int .i64 b,.int .i64 c] 3 (0,0))):
  Calls Tryz.prog 160 #[.slice (some ⟨g,0,none⟩) 3 3] w λ e w'=>e=.returned (.int .i64 (orC a b c))/\w'=w:=by
 have c0:=(block_cells h 0).1;have c1:=(block_cells h 1).1;have c2:=(block_cells h 2).1;simp only[List.getElem?_toArray,List.getElem?_cons_zero,List.getElem?_cons_succ] at c0 c1 c2;have hg:=(Array.getElem?_eq_some_iff.1 h).1;clear h;go_enter Tryz.func160,Tryz.ntmps160;go_wp2_with fail
 go_loop [8] (λ i=>∃ k:Nat,k<=3/\i=.int .i64 k/\(0<k->a=0)/\(1<k->b=0)/\(2<k->c=0)) (λ i=>3-(intOf i).toNat)
 exact⟨0,by omega,rfl,by omega,by omega,by omega⟩
 case round=>
  obtain⟨k,hk,rfl,h0,h1,h2⟩:=hrel
  match k,hk with
  | 0,_=>
   clear h0 h1 h2
   by_cases ha:a=0
   ·go_wp2_with fail
    go_round
    case rel=>exact⟨1,by omega,by go_num,λ _=>ha,by omega,by omega⟩
    case measure=>simp[intOf]
   ·have HE:=hide (show orC a b c=a by unfold orC;rw[if_pos ha]);go_wp2_with fail;go_ret;exact⟨by rw[ad HE];rfl,rfl⟩
  | 1,_=>
   have ha:=h0 (by omega);have HA:=hide ha;clear h0 h1 h2 ha
   by_cases hb:b=0
   ·go_wp2_with fail
    go_round
    case rel=>exact⟨2,by omega,by go_num,λ _=>ad HA,λ _=>hb,by omega⟩
    case measure=>simp[intOf]
   ·have HE:=hide (show orC a b c=b by unfold orC;rw[if_neg (by simp[ad HA]),if_pos hb]);go_wp2_with fail;go_ret;exact⟨by rw[ad HE];rfl,rfl⟩
  | 2,_=>
   have HA:=hide (h0 (by omega));have HB:=hide (h1 (by omega));clear h0 h1 h2
   by_cases hc:c=0
   ·go_wp2_with fail
    go_round
    case rel=>exact⟨3,by omega,by go_num,λ _=>ad HA,λ _=>ad HB,λ _=>hc⟩
    case measure=>simp[intOf]
   ·have HE:=hide (show orC a b c=c by unfold orC;rw[if_neg (by simp[ad HA]),if_neg (by simp[ad HB])]);go_wp2_with fail;go_ret;exact⟨by rw[ad HE];rfl,rfl⟩
  | 3,_=>
   have HE:=hide (show orC a b c=0 by unfold orC;rw[if_neg (by simp[h0]),if_neg (by simp[h1])];exact h2 (by omega));clear h0 h1 h2;go_wp2_with fail;go_ret;exact⟨by rw[ad HE];rfl,rfl⟩
end
section
open Go.RowKit
def fCells (n:Nat)(f:Nat->Value):Array Value:=((List.range n).map f).toArray
theorem ca (n:Nat)(f:Nat->Value):(fCells n f).size=n:=by simp[fCells]
variable {i n:Nat} {f:Nat->Value}
theorem fCells_get (h:i<n):(fCells n f)[i]?=some (f i):=by
 simp[fCells,h]
theorem fCells_made (n:Nat)(z:Value):madeCells #[z] n=fCells n (λ _=>z):=by
 apply Array.ext_getElem?;intro i
 by_cases h:i<n
 ·rw[made_get z n i h,fCells_get h]
 ·rw[Array.getElem?_eq_none (by simp[madeCells];omega),Array.getElem?_eq_none (by rw[ca];omega)]
variable {v:Value}
theorem fCells_set:(fCells n f).setIfInBounds i v=fCells n (λ j=>if j=i then v else f j):=by
 apply Array.ext_getElem?;intro j;rw[Array.getElem?_setIfInBounds]
 by_cases h:j<n
 ·rw[fCells_get h,fCells_get h]
  split
  ·rename_i e;subst e;rw[if_pos (by rw[ca];exact h),if_pos rfl]
  ·rename_i e;rw[if_neg (λ e'=>e e'.symm)]
 ·rw[Array.getElem?_eq_none (xs:=fCells n f) (by rw[ca];omega),Array.getElem?_eq_none (by rw[ca];omega)]
  split
  ·rename_i e;subst e;rw[if_neg (by rw[ca];exact h)]
  ·rfl
variable {g:Nat->Value}
theorem fCells_eq (h:∀ i,i<n->f i=g i):fCells n f=fCells n g:=by
 unfold fCells;rw[List.map_congr_left λ i hi=>h i (List.mem_range.1 hi)]
def bU (w:W8)(b:Nat)(T:TypeId)(n:Nat)(f:Nat->Value):Prop:=w.heap[b]?=some (.cells (fCells n f) T (0,0))
theorem bU.start (w:W8)(T:TypeId)(n:Nat)(z:Value):bU (w.alloc (.cells (madeCells #[z] n) T)) w.heap.size T n (λ _=>z):=by
 unfold bU;rw[<-fCells_made];exact heap_alloc_new w _
variable {T:TypeId} {b:Nat} {w:W8}
theorem bU.set (h:bU w b T n f)(i:Nat)(v:Value):bU (w.setCell ⟨b,i,none⟩ v) b T n (λ j=>if j=i then v else f j):=by
 unfold bU;rw[setCell_eq_setRow w b i _ T (0,0) v h,<-fCells_set];exact setRow_heap _ _ _ _ _ _ h
theorem bU.cell (h:bU w b T n f)(hi:i<n):w.cell? ⟨b,i,none⟩=some (f i):=by
 rw[(block_cells h i).1,fCells_get hi]
theorem bU.fz (h:bU w b T n f)(i:Nat):w.frozen? ⟨b,i,none⟩=false:=(block_cells h i).2
theorem bU.lt (h:bU w b T n f):b<w.heap.size:=(Array.getElem?_eq_some_iff.1 h).1
theorem bU.eq (h:bU w b T n f)(e:∀ i,i<n->f i=g i):bU w b T n g:=by
 unfold bU at h ⊢;rw[h,fCells_eq e]
variable {w':W8}
theorem bU.block (h:bU w b T n f)(e:w'.heap[b]?=w.heap[b]?):bU w' b T n f:=e.trans h
theorem bU.below (h:bU w b T n f)(k:Below w.heap.size w w'):bU w' b T n f:=(k.block b h.lt).trans h
theorem bU.cO {w:W8}{b n:Nat}{g:Nat->Nat}(h:bU w b 3 n (λ i=>.int .i64 (g i:Nat)))(hn:n<=maxLen){base:Nat}(hb:base<=b):w.ownsRow base 3 1 (.slice (some ⟨b,0,none⟩) n n) n (cO ((List.range n).map g)):=by
 refine⟨by simp[Go.Proofs.YtldkpahaocjdpaaGreat.cO],.inr ⟨b,n,_,rfl,hb,h,Nat.le_refl _,hn,by rw[ca];omega,?_⟩⟩;simp only[fCells,Go.Proofs.YtldkpahaocjdpaaGreat.cO,List.map_map,Nat.mul_one];rw[List.take_of_length_le (by simp)];rfl
variable {row:Option Nat} {A B:W8}
theorem cells_grown {cs:Array Value}{t:TypeId}{fr:Nat × Nat}(h:A.heap[b]?=some (.cells cs t fr))(hg:A.grownBy B row)(hr:∀ i,row=some i->∃ o:Obj,A.heap[i]?=some o/\o.isCells=false):B.heap[b]?=some (.cells cs t fr):=
 (hg.block b (Array.getElem?_eq_some_iff.1 h).1 (λ e=>by obtain⟨o,ho,hc⟩:=hr b e.symm;rw[h] at ho;cases ho;cases hc)).trans h
theorem own_grown {base:Nat}{e:TypeId}{size:Nat}{xs:V8}(h:A.ownsRow base e size v n xs)(hg:A.grownBy B row)(hr:∀ i,row=some i->∃ o:Obj,A.heap[i]?=some o/\o.isCells=false):B.ownsRow base e size v n xs:=by
 refine own_block h λ g jo=>?_
 rcases h.2 with⟨h0,_⟩ | ⟨g',cap,cur,rfl,hb,dn,_⟩
 ·rw[h0] at jo;cases jo
 ·have e:g'=g:=by simpa[Value.ownBlock] using jo
  subst e;rw[cells_grown dn hg hr,dn]
theorem aR.setCell {No:Nat->Prop}{a:W8}(h:aR No a w){j:Nat}(hb:a.heap.size<=b\/No b)(v:Value):aR No a (w.setCell ⟨b,j,none⟩ v):=
 ⟨h.os,h.tape,h.output,by simpa using h.size,λ i o hi hn ho=>by
  have h1:=h.same i o hi hn ho;have bG:i≠b:=λ e=>by
   subst e;rcases hb with hb | hb
   ·have:=(Array.getElem?_eq_some_iff.1 hi).1;omega
   ·exact hn hb
  rw[Below.heap_setCell _ _ _ _ (by simpa using bG)]
  exact h1⟩
end
section
def Ext (e x:ax):Prop:=∀ v y,pAt e v=some y->pAt x v=some y
def Dom (e:ax)(a:PAtm):Prop:=∀ t∈a.ts,t.1=true->∃ x,pAt e t.2=some x
theorem Ext.refl (e:ax):Ext e e:=λ _ _ h=>h
theorem Ext.trans {a b c:ax}(h:Ext a b)(k:Ext b c):Ext a c:=λ v y hv=>k v y (h v y hv)
theorem Ext.nil (e:ax):Ext [] e:=λ v y h=>by cases h
theorem Ext.cd {e x:ax}(h:Ext e x){t:PTerm}(hd:t.1=true->∃ y,pAt e t.2=some y):cd x t=cd e t:=by
 unfold Go.Proofs.YtldkpahaocjdpaaGreat.cd
 split
 ·rename_i ht;obtain⟨y,hy⟩:=hd ht;unfold dD;rw[h _ _ hy,hy]
 ·rfl
variable {e x:ax}
theorem Ext.fill (h:Ext e x){a:PAtm}(hd:Dom e a):aB x a=aB e a:=
 Prod.ext rfl (List.map_congr_left λ t ht=>h.cd (hd t ht))
theorem Ext.IL (h:Ext e x){a:PAtm}(hd:Dom e a):Dom x a:=λ t ht hv=>let ⟨y,hy⟩:=hd t ht hv;⟨y,h _ _ hy⟩
variable {e':ax}
theorem pmT_fill {t:PTerm}{n:B8}(h:pmT e t n=some e'):Ext e e'/\cd e' t=n/\(t.1=true->∃ x,pAt e' t.2=some x):=by
 unfold pmT at h
 by_cases hv:t.1=true
 ·rw[if_pos hv] at h;unfold pmB at h
  cases hp:pAt e t.2 with
  | none=>
   rw[hp] at h
   cases h
   have h2:pAt (e++[(t.2,n)]) t.2=some n:=(by rw[pAt_snoc,hp];simp);refine⟨λ v x hx=>by rw[pAt_snoc,hx],?_,λ _=>⟨n,h2⟩⟩;unfold cd dD;rw[if_pos hv,h2];rfl
  | some x=>
   rw[hp] at h;simp only at h
   split at h
   ·rename_i hq
    cases h
    refine⟨Ext.refl _,?_,λ _=>⟨x,hp⟩⟩;unfold cd dD;rw[if_pos hv,hp];exact aW.1 hq
   ·cases h
 ·rw[if_neg hv] at h
  split at h
  ·rename_i hq
   cases h
   refine⟨Ext.refl _,?_,λ c=>absurd c hv⟩;unfold cd;rw[if_neg hv];exact aW.1 hq
  ·cases h
theorem pmT_to (hx:Ext e x){t:PTerm}(hd:t.1=true->∃ y,pAt x t.2=some y):∃ e',pmT e t (cd x t)=some e'/\Ext e' x:=by
 unfold pmT cd
 by_cases hv:t.1=true
 ·obtain⟨y,hy⟩:=hd hv;rw[if_pos hv,if_pos hv];unfold dD pmB;rw[hy];simp only[Option.getD_some]
  cases hp:pAt e t.2 with
  | none=>
   refine⟨_,rfl,λ v z hz=>?_⟩;rw[pAt_snoc] at hz
   cases hq:pAt e v with
   | some q=>rw[hq] at hz;cases hz;exact hx _ _ hq
   | none=>
    rw[hq] at hz;simp only at hz
    split at hz
    ·rename_i hc
     cases hz
     rw[<-aW.1 hc];exact hy
    ·cases hz
  | some q=>
   have:=hx _ _ hp;rw[hy] at this
   cases this
   exact⟨e,by simp,hx⟩
 ·rw[if_neg hv,if_neg hv];exact⟨e,by simp,hx⟩
theorem pmTs_fill:∀ (ts:List PTerm) (ns:List B8) (e e':ax),ts.length=ns.length->pmTs e ts ns=some e'->Ext e e'/\ts.map (cd e')=ns/\∀ t∈ts,t.1=true->∃ x,pAt e' t.2=some x
 | [],[],e,e',_,h=>by rw[pmTs] at h;cases h;exact⟨Ext.refl _,rfl,by simp⟩
 | [],_::_,_,_,hl,_=>by cases hl
 | _::_,[],_,_,hl,_=>by cases hl
 | t::ts,n::ns,e,e',hl,h=>by
  rw[pmTs] at h;simp only[List.headD_cons,List.tail_cons] at h
  cases h1:pmT e t n with
  | none=>rw[h1] at h;cases h
  | some e1=>
   rw[h1] at h;simp only at h;obtain⟨g1,b1,d1⟩:=pmT_fill h1;obtain⟨g2,b2,d2⟩:=pmTs_fill ts ns e1 e' (by simpa using hl) h;refine⟨g1.trans g2,?_,λ u hu hv=>?_⟩
   ·rw[List.map_cons,b2,g2.cd d1,b1]
   ·rcases List.mem_cons.1 hu with rfl | hu
    ·obtain⟨x,hx⟩:=d1 hv;exact⟨x,g2 _ _ hx⟩
    ·exact d2 u hu hv
theorem pmTs_to {x:ax}:∀ (ts:List PTerm) (e:ax),Ext e x->(∀ t∈ts,t.1=true->∃ y,pAt x t.2=some y)->∃ e',pmTs e ts (ts.map (cd x))=some e'/\Ext e' x
 | [],e,h,_=>⟨e,rfl,h⟩
 | t::ts,e,h,hd=>by
  obtain⟨e1,h1,g1⟩:=pmT_to h (hd t List.mem_cons_self);obtain⟨e2,h2,g2⟩:=pmTs_to ts e1 g1 (λ u hu=>hd u (List.mem_cons_of_mem _ hu));refine⟨e2,?_,g2⟩;rw[pmTs];simp only[List.map_cons,List.headD_cons,List.tail_cons];rw[h1];exact h2
def Fits (a:PAtm)(t:Th):Prop:=a.p=t.1->a.ts.length=t.2.length
variable {ps:P9}
theorem fits_of {a:PAtm}{t:Th}(ha:AtomG ps a)(ht:eE ps t):Fits a t:=λ e=>by
 have h1:=ha.num;rw[e,ht.num] at h1;exact (Option.some.inj h1).symm
theorem pmatch_fill {a:PAtm}{t:Th}(hf:Fits a t)(h:aG e a t=some e'):Ext e e'/\aB e' a=t/\Dom e' a:=by
 unfold aG at h
 split at h
 ·rename_i c;have hp:a.p=t.1:=aW.1 c;obtain⟨g,b,d⟩:=pmTs_fill a.ts t.2 e e' (hf hp) h;exact⟨g,Prod.ext hp b,d⟩
 ·cases h
theorem pmatch_to (hx:Ext e x){a:PAtm}(hd:Dom x a):∃ e',aG e a (aB x a)=some e'/\Ext e' x:=by
 obtain⟨e',h1,h2⟩:=pmTs_to a.ts e hx hd;refine⟨e',?_,h2⟩;unfold aG;rw[if_pos (by simp[aB])];exact h1
theorem pmatches_fill {K:List (Th × Nat)}:∀ (pos:List PAtm) (e x:ax),(∀ a∈pos,∀ p∈K,Fits a p.1)->x∈pmatches K pos e->Ext e x/\∀ a∈pos,Dom x a/\∃ n,(aB x a,n)∈K
 | [],e,x,_,h=>by
  rw[pmatches] at h;rw[List.mem_singleton.1 h];exact⟨Ext.refl _,by simp⟩
 | a::r,e,x,hf,h=>by
  rw[pmatches] at h;obtain⟨p,hp,h⟩:=List.mem_flatMap.1 h
  cases hm:aG e a p.1 with
  | none=>rw[hm] at h;simp at h
  | some e1=>
   rw[hm] at h;simp only at h;obtain⟨g1,b1,d1⟩:=pmatch_fill (hf a List.mem_cons_self p hp) hm;obtain⟨g2,b2⟩:=pmatches_fill r e1 x (λ y hy=>hf y (List.mem_cons_of_mem _ hy)) h;refine⟨g1.trans g2,λ y hy=>?_⟩;rcases List.mem_cons.1 hy with rfl | hy
   ·exact⟨g2.IL d1,p.2,by rw[g2.fill d1,b1];exact hp⟩
   ·exact b2 y hy
theorem pmatches_to {K:List (Th × Nat)}{x:ax}:∀ (pos:List PAtm) (e:ax),Ext e x->(∀ a∈pos,Dom x a/\∃ n,(aB x a,n)∈K)->∃ e'∈pmatches K pos e,Ext e' x
 | [],e,h,_=>⟨e,by rw[pmatches];exact List.mem_singleton.2 rfl,h⟩
 | a::r,e,h,hd=>by
  obtain⟨d,n,hn⟩:=hd a List.mem_cons_self;obtain⟨e1,h1,g1⟩:=pmatch_to h d;obtain⟨e2,h2,g2⟩:=pmatches_to r e1 g1 (λ y hy=>hd y (List.mem_cons_of_mem _ hy));refine⟨e2,?_,g2⟩;rw[pmatches];refine List.mem_flatMap.2 ⟨_,hn,?_⟩;rw[h1];exact h2
def rowOf (N:List (Th × Nat))(pos:List PAtm)(e:ax):List Nat:=pos.map λ a=>(ay N (aB e a)).getD 0
def rowsTo (N:List (Th × Nat))(r:PR)(t:Th):List (List Nat):=match aG [] (aO r) t with
 | none=>[]
 | some s=>(pways N (negOf r.bs) (posOf r.bs) s).map (rowOf N (posOf r.bs))
variable {N:List (Th × Nat)}
theorem rowOf_ext {pos:List PAtm}(h:Ext e x)(hd:∀ a∈pos,Dom e a):rowOf N pos x=rowOf N pos e:=
 List.map_congr_left λ a ha=>by rw[h.fill (hd a ha)]
theorem denied_ext {K:List (Th × Nat)}{neg:List PAtm}(h:Ext e x)(hd:∀ a∈neg,Dom e a):deniedB K neg x=deniedB K neg e:=by
 unfold deniedB;have:∀ l:List PAtm,(∀ a∈l,a∈neg)->(l.any λ a=>(ay K (aB x a)).isSome)=l.any λ a=>(ay K (aB e a)).isSome:=by
  intro l
  induction l with
  | nil=>intro _;rfl
  | cons a r ih=>intro hl;rw[List.any_cons,List.any_cons,ih (λ b hb=>hl b (List.mem_cons_of_mem _ hb)),h.fill (hd a (hl a List.mem_cons_self))]
 exact this neg (λ _ h=>h)
variable {r:PR}
theorem bF.qM (hg:bF ps r)(h:∀ a∈posOf r.bs,Dom e a):∀ a∈negOf r.bs,Dom e a:=λ a ha t ht hv=>by
 obtain⟨b,hb,Dr⟩:=hg.mQ a ha t ht hv;exact h b hb t Dr hv
theorem bF.tT (hg:bF ps r)(h:∀ a∈posOf r.bs,Dom e a):Dom e (aO r):=λ t ht hv=>by
 obtain⟨b,hb,Dr⟩:=hg.mP t ht hv;exact h b hb t Dr hv
theorem rowsTo_iff (hN:∀ p∈N,eE ps p.1)(hg:bF ps r){t:Th}(ht:eE ps t)(row:List Nat):row∈rowsTo N r t↔∃ e∈pways N (negOf r.bs) (posOf r.bs) [],aB e (aO r)=t/\rowOf N (posOf r.bs) e=row:=by
 have qW:∀ a∈posOf r.bs,∀ p∈N,Fits a p.1:=λ a ha p hp=>fits_of (hg.pos a ha) (hN p hp)
 constructor
 ·intro h;unfold rowsTo at h
  cases hs:aG [] (aO r) t with
  | none=>rw[hs] at h;cases h
  | some s=>
   rw[hs] at h;obtain⟨x,hx,rfl⟩:=List.mem_map.1 h;obtain⟨hx,ui⟩:=List.mem_filter.1 hx;obtain⟨-,b1,d1⟩:=pmatch_fill (fits_of hg.hd ht) hs;obtain⟨g2,b2⟩:=pmatches_fill _ _ _ qW hx;obtain⟨e,he,g3⟩:=pmatches_to (posOf r.bs) [] (Ext.nil x) b2;have d3:∀ a∈posOf r.bs,Dom e a:=λ a ha=>((pmatches_fill _ _ _ qW he).2 a ha).1
   refine⟨e,List.mem_filter.2 ⟨he,?_⟩,?_,(rowOf_ext g3 d3).symm⟩
   ·rw[<-denied_ext g3 (hg.qM d3)];exact ui
   ·rw[<-g3.fill (hg.tT d3),g2.fill d1,b1]
 ·rintro⟨e,he,hh,rfl⟩;obtain⟨he,ui⟩:=List.mem_filter.1 he;obtain⟨-,b2⟩:=pmatches_fill _ _ _ qW he;have d2:∀ a∈posOf r.bs,Dom e a:=λ a ha=>(b2 a ha).1
  obtain⟨s,hs,gs⟩:=pmatch_to (Ext.nil e) (hg.tT d2);rw[hh] at hs;obtain⟨x,hx,g3⟩:=pmatches_to (posOf r.bs) s gs b2;have d3:∀ a∈posOf r.bs,Dom x a:=λ a ha=>((pmatches_fill _ _ _ qW hx).2 a ha).1
  unfold rowsTo;rw[hs];refine List.mem_map.2 ⟨x,List.mem_filter.2 ⟨hx,?_⟩,(rowOf_ext g3 d3).symm⟩;rw[<-denied_ext g3 (hg.qM d3)];exact ui
end
section
def SameKeys (K N:List (Th × Nat)):Prop:=∀ t,(∃ n,(t,n)∈K)↔∃ n,(t,n)∈N
theorem isSome_look (K:List (Th × Nat))(t:Th):(ay K t).isSome=true↔∃ n,(t,n)∈K:=by
 constructor
 ·intro h;obtain⟨n,hn⟩:=Option.isSome_iff_exists.1 h;exact⟨n,bp hn⟩
 ·rintro⟨n,hn⟩
  cases h:ay K t with
  | some _=>rfl
  | none=>exact absurd hn (lookN_none h n)
variable {K N:List (Th × Nat)}
theorem SameKeys.look (h:SameKeys K N)(t:Th):(ay K t).isSome=(ay N t).isSome:=by
 rw[Bool.eq_iff_iff,isSome_look,isSome_look];exact h t
theorem SameKeys.jl {K N:List (Th × Nat)}(h:SameKeys K N):∀ (pos:List PAtm) (e x:ax),x∈pmatches K pos e->x∈pmatches N pos e
 | [],e,x,hx=>hx
 | a::r,e,x,hx=>by
  rw[pmatches] at hx ⊢;obtain⟨p,hp,hx⟩:=List.mem_flatMap.1 hx;obtain⟨n,hn⟩:=(h p.1).1 ⟨p.2,hp⟩;refine List.mem_flatMap.2 ⟨_,hn,?_⟩
  cases hm:aG e a p.1 with
  | none=>rw[hm] at hx;cases hx
  | some e1=>rw[hm] at hx;exact h.jl r e1 x hx
theorem SameKeys.symm (h:SameKeys K N):SameKeys N K:=λ t=>(h t).symm
theorem SameKeys.ways (h:SameKeys K N)(neg pos:List PAtm)(e x:ax):x∈pways K neg pos e↔x∈pways N neg pos e:=by
 have hd:deniedB K neg x=deniedB N neg x:=by
  unfold deniedB;have:(λ a:PAtm=>(ay K (aB x a)).isSome)=λ a=>(ay N (aB x a)).isSome:=funext λ a=>h.look _
  rw[this]
 unfold pways;rw[List.mem_filter,List.mem_filter,hd];exact and_congr_left λ _=>⟨h.jl pos e x,h.symm.jl pos e x⟩
end
section
structure gx (N:List (Th × Nat))(rp:List PR)(t:Th)(i:Nat)(row:List Nat):Prop where
 low:∀ j (h:j<rp.length),j<i->rowsTo N rp[j] t=[]
 lt:i<rp.length
 mem:row∈rowsTo N rp[i] t
 least:∀ vb∈rowsTo N rp[i] t,lexB vb row=false
theorem gx.uniq {N:List (Th × Nat)}{rp:List PR}{t:Th}{i j:Nat}{x y:List Nat}(h:gx N rp t i x)(k:gx N rp t j y):i=j/\x=y:=by
 have e:i=j:=by
  rcases Nat.lt_trichotomy i j with h1 | h1 | h1
  ·have:=h.mem;rw[k.low i h.lt h1] at this;cases this
  ·exact h1
  ·have:=k.mem;rw[h.low j k.lt h1] at this;cases this
 subst e;exact⟨rfl,lexB_eq (k.least _ h.mem) (h.least _ k.mem)⟩
end
end Go.Proofs.YtldkpahaocjdpaaGreat
