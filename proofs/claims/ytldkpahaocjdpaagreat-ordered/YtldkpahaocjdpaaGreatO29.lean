/-
  The reference's Model.
-/
import Derived.Deep.Upon
import Derived.Test.YtldkpahaocjdpaaGreatO27
import Derived.Test.YtldkpahaocjdpaaGreatO28
import Derived.Calls
set_option maxHeartbeats 16000000
set_option maxRecDepth 1000000
namespace Go.Proofs.YtldkpahaocjdpaaGreat
section
open Go.RowKit
variable {w:W8}
theorem row_newsN {base:Nat}{e:TypeId}{size g n cap:Nat}{xs:V8}(h:w.ownsRow base e size (.slice (some ⟨g,0,none⟩) n cap) n xs):∀ j u,xs[j]?=some u->w.cell? ((⟨g,0,none⟩:Addr).add j)=some u:=by
 intro j u hj;have hl:xs.length=n*size:=h.1;have bP:j<xs.length:=(List.getElem?_eq_some_iff.1 hj).1;rcases h.2 with⟨h1,_⟩ | ⟨g',oI,cur,hv,hb,hg,dG,dx,eZ,ht⟩
 ·cases h1
 ·injection hv with h1 h2 h3
  injection h1 with h1
  injection h1 with h1
  subst h1;have:=h.cellAt j (by omega);unfold Addr.add
  split <;> simp_all
theorem wpList_append_none {P:Program}{ops:Array Oper}{rest:List Oper}{o:Oper}{a:Act}{Q:Exit->Act->W8->Prop}(CA:o.guard=none)(s x:Operand)(t:TypeId)(ho:o.op=.call { callee:=.builtin .append,args:=#[s,x],argTypes:=#[t,t] })(v xv:Value)(hs:a.eval s=v)(hx:a.eval x=xv)(hr:∀ ty,(Builtin.append_ #[t,t] ty #[v,xv]).run P w=.ok v w)(h:wpList P ops Q rest (a.put o.dst v) w):wpList P ops Q (o::rest) a w:=
 wpList_plain CA λ _ hK=>by
  unfold Oper.wp execOp;simp only[ho,resolve,invoke,builtin,Sem.run_bind,Sem.run_pure,Result.andThen_ok,List.map_toArray,List.map_cons,List.map_nil,hs,hx,hr];exact hK _ _ h
end
section
structure RulesRel (ps:P9)(rs:List RRule)(rp:List PR):Prop where
 fwd:∀ R∈rs,∃ r∈rp,dO R r
 bwd:∀ r∈rp,∃ R∈rs,dO R r
 dh:∀ r∈rp,bF ps r
end
section
open Go.RowKit
def askAtom (s:B8):RAtom:=⟨(tok s 0).text,(atomRest s 0 (-1)).1,false,(tok s 0).at_,0⟩
def askEnd (s:B8):Bool:=decide ((atomRest s 0 (-1)).2.2<0)&&(tok s (atomRest s 0 (-1)).2.1).kind==46
def askOk (ps:P9)(s:B8):Bool:=askEnd s&&meetB ps (tok s 0).text (atomRest s 0 (-1)).1.length
end
section
theorem num_meetL:∀ (L ps:P9),AgreeL L ps->(∀ k n,numOf ps k=some n->numOf (meetL L ps) k=some n)/\∀ x∈L,numOf (meetL L ps) x.1=some x.2
 | [],ps,_=>⟨λ _ _ h=>h,by simp⟩
 | x::r,ps,h=>by
  obtain⟨h1,h2⟩:=h;obtain⟨i1,i2⟩:=num_meetL r (meetP ps x.1 x.2) h2;rw[meetL];have hx:numOf (meetP ps x.1 x.2) x.1=some x.2:=by rw[numOf_meet h1,if_pos rfl]
  refine⟨λ k n hk=>i1 k n ?_,λ y hy=>?_⟩
  ·rw[numOf_meet h1]
   by_cases e:k=x.1
   ·rw[if_pos e];rw[meetB_num] at h1;rw[e] at hk;rw[hk] at h1;have h3:n=x.2:=(by simpa using h1);rw[h3]
   ·rw[if_neg e];exact hk
  ·rcases List.mem_cons.1 hy with rfl | hy
   ·exact i1 _ _ hx
   ·exact i2 y hy
theorem said_of {body:List RAtom}:∀ (ts:List RTerm),looseI body ts<0->∀ t∈ts,t.isVar=true->saidB t.text body=true
 | [],_,t,ht,_=>by cases ht
 | u::r,h,t,ht,hv=>by
  rw[looseI] at h
  split at h
  ·omega
  ·rename_i c;rcases List.mem_cons.1 ht with rfl | ht
   ·simp only[hv,Bool.true_and,Bool.not_eq_true',Bool.not_eq_false] at c;exact c
   ·exact said_of r h t ht hv
theorem loose_body {body:List RAtom}:∀ (l:List RAtom),looseBody body l<0->∀ A∈l,A.no=true->looseI body A.aS<0
 | [],_,A,hA,_=>by cases hA
 | B::r,h,A,hA,hn=>by
  rw[looseBody] at h
  by_cases c:0<=(if B.no then looseI body B.aS else -1)
  ·rw[if_pos c] at h
   by_cases hb:B.no=true
   ·rw[if_pos hb] at c;omega
   ·rw[if_neg hb] at c;omega
  ·rw[if_neg c] at h;rcases List.mem_cons.1 hA with rfl | hA
   ·rw[if_pos hn] at c;omega
   ·exact loose_body r h A hA hn
theorem unsafe_rule:∀ (rs:List RRule),unsafeI rs<0->∀ R∈rs,looseI R.body R.head.aS<0/\looseBody R.body R.body<0
 | [],_,R,hR=>by cases hR
 | Q::r,h,R,hR=>by
  rw[unsafeI] at h
  split at h
  ·omega
  ·rename_i c;rcases List.mem_cons.1 hR with rfl | hR
   ·unfold looseRule at c
    split at c
    ·omega
    ·constructor <;> omega
   ·exact unsafe_rule r h R hR
theorem said_mem {body:List RAtom}{v:B8}(h:saidB v body=true):∃ a∈posB body,((true,v):PTerm)∈a.ts:=by
 unfold saidB at h;obtain⟨A,hA,h⟩:=List.any_eq_true.1 h;unfold saidA at h;simp only[Bool.and_eq_true,List.any_eq_true] at h;obtain⟨hn,u,hu,hx⟩:=h;unfold j6 at hx;simp only[Bool.and_eq_true] at hx;have e:u.text=v:=aW.1 hx.2;refine⟨pa A,List.mem_map.2 ⟨A,List.mem_filter.2 ⟨hA,hn⟩,rfl⟩,List.mem_map.2 ⟨u,hu,?_⟩⟩;unfold dI;rw[hx.1,e]
variable {s:B8}
theorem safe_of (h:(refLoad s).1=true):unsafeI (parsed s).1<0:=by
 unfold refLoad at h
 by_cases c0:800<s.size
 ·rw[if_pos c0] at h;cases h
 rw[if_neg c0] at h
 by_cases c1:0<=(parsed s).2.2
 ·rw[if_pos c1] at h;cases h
 rw[if_neg c1] at h
 by_cases c2:0<=(aj s).1
 ·rw[if_pos c2] at h;cases h
 rw[if_neg c2] at h
 by_cases c3:0<=unsafeI (parsed s).1
 ·rw[if_pos c3] at h;cases h
 omega
theorem rules_rel (h:(refLoad s).1=true){rp:List PR}(jC:rp.map (·.R)=(pparsed s).2.2.1)(cT:∀ r∈rp,r.bs.map (·.1)=r.R.body):RulesRel (aj s).2 (parsed s).1 rp:=by
 have g:=good_of h;have F4:=g.rules;have sK:=unsafe_rule _ (safe_of h);have je:∀ x∈(pparsed s).2.2.1.flatMap aZ,numOf (aj s).2 x.1=some x.2:=by
  have:=(num_meetL _ _ g.agree).2;rw[g.met] at this;exact this
 have yn:∀ r∈rp,∃ R∈(parsed s).1,dO R r:=λ r hr=>by
  have:r.R∈(parsed s).1.map pruleOf:=by rw[<-F4,<-jC];exact List.mem_map.2 ⟨r,hr,rfl⟩
  obtain⟨R,hR,e⟩:=List.mem_map.1 this;exact⟨R,hR,e.symm,cT r hr⟩
 refine⟨λ R hR=>?_,yn,λ r hr=>?_⟩
 ·have:pruleOf R∈rp.map (·.R):=by rw[jC,F4];exact List.mem_map.2 ⟨R,hR,rfl⟩
  obtain⟨r,hr,e⟩:=List.mem_map.1 this;exact⟨r,hr,e,cT r hr⟩
 ·obtain⟨R,hR,hrel⟩:=yn r hr;have ak:r.R∈(pparsed s).2.2.1:=by rw[<-jC];exact List.mem_map.2 ⟨r,hr,rfl⟩
  have hw:=pparsed_word s r.R ak;have hb:=g.body r.R ak;have nD:∀ x∈r.bs,x.1∈r.R.body:=λ x hx=>by rw[<-cT r hr];exact List.mem_map.2 ⟨x,hx,rfl⟩
  refine⟨?_,⟨hw.1,je (r.R.pd,r.R.ts.length) (List.mem_flatMap.2 ⟨r.R,ak,by simp[aZ]⟩)⟩,λ x hx=>⟨hw.2 _ (nD x hx),je (x.1.pd,x.1.ts.length) (List.mem_flatMap.2 ⟨r.R,ak,?_⟩)⟩,λ t ht hv=>?_,λ x hx t ht hv=>?_⟩
  ·rw[<-cT r hr,List.length_map] at hb;exact hb
  ·simp only[aZ,List.mem_cons,List.mem_map];exact .inr ⟨x.1,nD x hx,rfl⟩
  ·rw[hrel.hd] at ht;obtain⟨u,hu,rfl⟩:=List.mem_map.1 ht;have uV:u.isVar=true:=hv;have:=said_mem (said_of _ (sK R hR).1 u hu uV);rw[hrel.pos];unfold dI;rw[uV];exact this
  ·rw[hrel.neg] at hx;obtain⟨A,hA,rfl⟩:=List.mem_map.1 hx;obtain⟨hA,hn⟩:=List.mem_filter.1 hA;obtain⟨u,hu,rfl⟩:=List.mem_map.1 ht;have uV:u.isVar=true:=hv;have:=said_mem (said_of _ (loose_body _ (sK R hR).2 A hA hn) u hu uV);rw[hrel.pos];unfold dI;rw[uV];exact this
theorem pask_eq (q:B8):paskS q=if askEnd q then some (pa (askAtom q)) else none:=by
 have h:=atom_eq q 0 (-1) (by decide) (Nat.zero_le _);unfold paskS askEnd
 cases hP:patomS q 0 with
 | no r=>
  rw[hP] at h;have h':(atomRest q 0 (-1)).2.2=((ae q r).2.1:Int):=h;rw[h',if_neg];simp;intro h;omega
 | yes p pd ts pl=>
  rw[hP] at h;obtain⟨h1,h2,h3,_,h5⟩:=h;rw[h1];have K:=kinds q p h5;have e:(⟨pd,ts⟩:PAtm)=pa (askAtom q):=by rw[h2,h3];rfl
  simp only
  by_cases c:(tok q p).kind=46
  ·rw[if_pos (K.k0.2 c),if_pos (by simp[c]),e]
  ·rw[if_neg (λ h=>c (K.k0.1 h)),if_neg (by simp[c])]
theorem pask_word {q:B8}{A:PAtm}(h:paskS q=some A):AtomW A.p A.ts:=by
 unfold paskS at h
 split at h
 ·cases h
 ·rename_i p pd ts pl hp
  split at h
  ·cases h;exact dY hp
  ·cases h
theorem suits_meet (ps:P9)(A:PAtm):suitsB ps A=meetB ps A.p A.ts.length:=by
 unfold suitsB
 cases hn:numOf ps A.p with
 | none=>exact (by rw[meetB_num,hn]:meetB ps A.p A.ts.length=true) ▸ rfl
 | some m=>
  by_cases e:m=A.ts.length
  ·have:meetB ps A.p A.ts.length=true:=by rw[meetB_num,hn,e];simp
   rw[this];simp[e]
  ·have:¬ meetB ps A.p A.ts.length=true:=by rw[meetB_num,hn];simpa using e
   simp[e,this]
theorem asked_eq (ps:P9)(q:B8):askedS ps q=if askOk ps q then some (pa (askAtom q)) else none:=by
 unfold askedS askOk;rw[pask_eq]
 by_cases c:askEnd q=true
 ·rw[if_pos c,c];simp only[Bool.true_and];rw[suits_meet];have:(pa (askAtom q)).ts.length=(atomRest q 0 (-1)).1.length:=by simp[pa,askAtom]
  rw[this];rfl
 ·rw[if_neg c];have:askEnd q=false:=by simpa using c
  rw[this];simp
end
section
def lexB:List Nat->List Nat->Bool
 | [],[]=>false
 | [],_::_=>true
 | _::_,[]=>false
 | a::x,b::y=>if a<b then true else if b<a then false else lexB x y
theorem gI:∀ x:List Nat,lexB x x=false
 | []=>rfl
 | a::x=>by rw[lexB,if_neg (Nat.lt_irrefl a),if_neg (Nat.lt_irrefl a)];exact gI x
theorem lexB_trans:∀ {x y z:List Nat},lexB x y=true->lexB y z=true->lexB x z=true
 | [],[],_,h,_=>by cases h
 | [],_::_,[],_,h=>by cases h
 | [],_::_,_::_,_,_=>rfl
 | _::_,[],_,h,_=>by cases h
 | _::_,_::_,[],_,h=>by cases h
 | a::x,b::y,c::z,h,k=>by
  rw[lexB] at h k ⊢
  by_cases h1:a<b
  ·by_cases h2:b<c
   ·rw[if_pos (by omega)]
   ·rw[if_neg h2] at k
    by_cases h3:c<b
    ·rw[if_pos h3] at k;cases k
    ·rw[if_pos (by omega)]
  ·rw[if_neg h1] at h
   by_cases h4:b<a
   ·rw[if_pos h4] at h;cases h
   ·rw[if_neg h4] at h;have:a=b:=by omega
    subst this
    by_cases h2:a<c
    ·rw[if_pos h2]
    ·rw[if_neg h2] at k ⊢
     by_cases h3:c<a
     ·rw[if_pos h3] at k;cases k
     ·rw[if_neg h3] at k ⊢;exact lexB_trans h k
theorem lexB_eq:∀ {x y:List Nat},lexB x y=false->lexB y x=false->x=y
 | [],[],_,_=>rfl
 | [],_::_,h,_=>by cases h
 | _::_,[],_,h=>by cases h
 | a::x,b::y,h,k=>by
  rw[lexB] at h k
  by_cases h1:a<b
  ·rw[if_pos h1] at h;cases h
  ·by_cases h2:b<a
   ·rw[if_pos h2] at k;cases k
   ·rw[if_neg h1,if_neg h2] at h;rw[if_neg h2,if_neg h1] at k;rw[lexB_eq h k,show a=b by omega]
def cmpN (x y:Nat):Int:=if x<y then -1 else if y<x then 1 else 0
def lexC:List Nat->List Nat->Int
 | [],[]=>0
 | [],_::_=>-1
 | _::_,[]=>1
 | a::x,b::y=>if cmpN a b=0 then lexC x y else cmpN a b
theorem lexC_neg:∀ x y:List Nat,lexC x y<0↔lexB x y=true
 | [],[]=>by simp[lexC,lexB]
 | [],_::_=>by simp[lexC,lexB]
 | _::_,[]=>by simp[lexC,lexB]
 | a::x,b::y=>by
  have ih:=lexC_neg x y;rw[lexC,lexB];unfold cmpN
  by_cases h1:a<b
  ·simp[h1]
  ·by_cases h2:b<a
   ·simp[h1,h2]
   ·simp only[if_neg h1,if_neg h2,if_true];exact ih
end
section
def SameKeys (K N:List (Th × Nat)):Prop:=∀ t,(∃ n,(t,n)∈K)↔∃ n,(t,n)∈N
theorem isSome_look (K:List (Th × Nat))(t:Th):(ay K t).isSome=true↔∃ n,(t,n)∈K:=by
 constructor
 ·intro h;obtain⟨n,hn⟩:=Option.isSome_iff_exists.1 h;exact⟨n,bp hn⟩
 ·rintro⟨n,hn⟩
  cases h:ay K t with
  | some _=>rfl
  | none=>exact absurd hn (lookN_none h n)
variable {K N:List (Th × Nat)}
theorem SameKeys.look (h:SameKeys K N)(t:Th):(ay K t).isSome=(ay N t).isSome:=by
 rw[Bool.eq_iff_iff,isSome_look,isSome_look];exact h t
theorem SameKeys.jl {K N:List (Th × Nat)}(h:SameKeys K N):∀ (pos:List PAtm) (e x:ax),x∈pmatches K pos e->x∈pmatches N pos e
 | [],e,x,hx=>hx
 | a::r,e,x,hx=>by
  rw[pmatches] at hx ⊢;obtain⟨p,hp,hx⟩:=List.mem_flatMap.1 hx;obtain⟨n,hn⟩:=(h p.1).1 ⟨p.2,hp⟩;refine List.mem_flatMap.2 ⟨_,hn,?_⟩
  cases hm:aG e a p.1 with
  | none=>rw[hm] at hx;cases hx
  | some e1=>rw[hm] at hx;exact h.jl r e1 x hx
theorem SameKeys.symm (h:SameKeys K N):SameKeys N K:=λ t=>(h t).symm
theorem SameKeys.ways (h:SameKeys K N)(neg pos:List PAtm)(e x:ax):x∈pways K neg pos e↔x∈pways N neg pos e:=by
 have hd:deniedB K neg x=deniedB N neg x:=by
  unfold deniedB;have:(λ a:PAtm=>(ay K (aB x a)).isSome)=λ a=>(ay N (aB x a)).isSome:=funext λ a=>h.look _
  rw[this]
 unfold pways;rw[List.mem_filter,List.mem_filter,hd];exact and_congr_left λ _=>⟨h.jl pos e x,h.symm.jl pos e x⟩
end
section
structure gx (N:List (Th × Nat))(rp:List PR)(t:Th)(i:Nat)(row:List Nat):Prop where
 low:∀ j (h:j<rp.length),j<i->rowsTo N rp[j] t=[]
 lt:i<rp.length
 mem:row∈rowsTo N rp[i] t
 least:∀ vb∈rowsTo N rp[i] t,lexB vb row=false
theorem gx.uniq {N:List (Th × Nat)}{rp:List PR}{t:Th}{i j:Nat}{x y:List Nat}(h:gx N rp t i x)(k:gx N rp t j y):i=j/\x=y:=by
 have e:i=j:=by
  rcases Nat.lt_trichotomy i j with h1 | h1 | h1
  ·have:=h.mem;rw[k.low i h.lt h1] at this;cases this
  ·exact h1
  ·have:=k.mem;rw[h.low j k.lt h1] at this;cases this
 subst e;exact⟨rfl,lexB_eq (k.least _ h.mem) (h.least _ k.mem)⟩
end
section
open Go.RowKit Go.Maps
def thOf (A:PAtm):Option Th:=if A.ts.any (·.1) then none else some (A.p,A.ts.map (·.2))
theorem results_th {fn:Func}{p u:Tmp}(h:fn.results=#[.cell p 88,.tmp u])(tmps:Array Value)(w:W8)(g:Nat)(t:Th)(hp:tmps.getD p undef=.pointer (some ⟨g,0,none⟩))(hg:w.heap[g]?=some (.cells (aq t).toArray 88 (0,0))):
  (results fn tmps).run Tryz.prog w=.ok (.tuple #[thV t,tmps.getD u undef]) w:=by
 have rf:tmps[p]?.getD undef=.pointer (some ⟨g,0,none⟩):=by simpa using hp
 have jT:tmps.getD u undef=tmps[u]?.getD undef:=by simp
 rw[jT];simp[results,h,rf,asAddr,run_loadVar_row w g _ 88 _ _ _ hg Tryz.underlying88 rfl (by rw[infoTh];rfl),thV]
def ThOfPost (w:W8)(r:Option Th)(en:Ending)(w':W8):Prop:=Below w.heap.size w w'/\en=.returned (.tuple #[thV (r.getD ({ data:=#[] },[])),.bool r.isSome])
theorem thof_any (w:W8)(base:Nat)(A:PAtm)(a:O8)(c:Nat)(h:w.ownsRow base 191 1 (.slice a A.ts.length c) A.ts.length (A.ts.map termV))(h4:A.ts.length<=4):
  Calls Tryz.prog 65 #[.agg #[.string A.p,.slice a A.ts.length c]] w (ThOfPost w (thOf A)):=by
 have H:=hide h;clear h;have a1:=asVar_yes;have a2:=asName_yes;have a3:=asName_no;go_enter Tryz.func65,Tryz.ntmps65;go_upto_region 2 with fail;generalize hw0:World.alloc (World.alloc (World.alloc w _) _) _=w0;have k0:Below w.heap.size w w0:=by
  rw[<-hw0];exact (((Below.refl w.heap.size w).alloc L9 _).alloc (by simp) _).alloc (by simp only[World.size_alloc];omega) _
 have x1:w0.heap[w.heap.size]?=some (.cells #[.string A.p,.slice a A.ts.length c] 79 (0,0)):=by
  rw[<-hw0,Below.heap_alloc _ _ _ (by simp only[World.size_alloc];omega),Below.heap_alloc _ _ _ (by simp)];exact heap_alloc_new w _
 have x2:w0.heap[w.heap.size+1]?=some (.cells (aq ⟨{ data:=#[] },[]⟩).toArray 88 (0,0)):=by
  rw[<-hw0,Below.heap_alloc _ _ _ (by simp)];have:=heap_alloc_new (w.alloc (.cells #[.string A.p,.slice a A.ts.length c] 79)) (.cells (aq ⟨{ data:=#[] },[]⟩).toArray 88);rw[World.size_alloc] at this;exact this
 have x3:w0.heap[w.heap.size+1+1]?=some (.cells (aq ⟨A.p,[]⟩).toArray 88 (0,0)):=by
  rw[<-hw0];have:=heap_alloc_new ((w.alloc (.cells #[.string A.p,.slice a A.ts.length c] 79)).alloc (.cells (aq ⟨{ data:=#[] },[]⟩).toArray 88)) (.cells (aq ⟨A.p,[]⟩).toArray 88);rw[World.size_alloc,World.size_alloc] at this;exact this
 have s0:w.heap.size+1+1+1=w0.heap.size:=by rw[<-hw0];simp
 have ee:=own_block (ad H) (λ g e=>k0.block g ((ad H).lt g e).2);have HG:=hide (λ g (e1:(Value.slice a A.ts.length c).ownBlock=some g)=>((ad H).lt g e1).2);clear hw0 H;have fH:=hide s0;have qJ:=hide x3;have oF:=hide x2;have na:=hide ee;have cq:=hide k0;obtain⟨p1,-⟩:=block_cells x1 1;simp only[List.getElem?_toArray,List.getElem?_cons_zero,List.getElem?_cons_succ] at p1;clear x1 x2 x3 ee k0 s0;go_wp2_with fail
 go_loopg [15] A.ts.length (λ gg i wr=>∃ (k:Nat) (L:List B8),k<=A.ts.length/\gg=A.ts.length-k/\i=.int .i64 k/\L=(A.ts.take k).map (·.2)/\(A.ts.take k).any (·.1)=false/\wr.heap[w.heap.size+1+1]?=some (.cells (aq ⟨A.p,L⟩).toArray 88 (0,0))/\Kept [w.heap.size+1+1] w0 wr)
 exact⟨0,[],Nat.zero_le _,rfl,rfl,rfl,rfl,ad qJ,Kept.refl _ _⟩
 case round=>
  obtain⟨k,L,hk,fM,rfl,hL,oO,hx,cV⟩:=hrel;have ik:L.length=k:=by rw[hL];simp;omega
  have sY:=ad fH;have lu:=hide (show Below w.heap.size w wr from ⟨cV.os.trans (ad cq).os,cV.tape.trans (ad cq).tape,cV.output.trans (ad cq).output,Nat.le_trans (ad cq).size cV.size,λ i hi=>(cV.block i (by omega) (by simp;omega)).trans ((ad cq).block i hi)⟩);have HX:=hide hx;have gw:=hide cV;have HL:=hide hL;have p8:=hide ik;have AV:=hide oO;have qc:=hide ((cV.block (w.heap.size+1) (by omega) (by simp)).trans (ad oF))
  by_cases aN:k<A.ts.length
  ·obtain⟨g,rfl,nB,dG,dx,hc⟩:=termsAt (ad na) k aN;have eP:=ad HG g rfl;have gD:wr.cell? ⟨g,k,none⟩=some (termV A.ts[k]):=((ad gw).cell (p:=⟨g,k,none⟩) nB (by simp;omega)).trans hc;obtain⟨dV,Fx⟩:=block_cells hx (1+k);replace dV:wr.cell? ⟨w.heap.size+1+1,1+k,none⟩=some (.string (nth4 L k)):=by
    rw[dV,List.getElem?_toArray];exact thCells_name ⟨A.p,L⟩ (by omega)
   have gW:(k:Int)<A.ts.length:=(by omega);have jq:(1+k:Int)<5:=(by omega);clear hc sY hx cV hL ik oO
   cases hv:A.ts[k].1 with
   | false=>
    have nA:wr.cell? ⟨g,k,none⟩=some (.iface 193 (.string A.ts[k].2)):=(by rw[gD];unfold termV;rw[hv];rfl);have HV:=hide hv;clear gD hv;go_wp2_with fail;go_roundg (A.ts.length-(k+1))
    case measure=>omega
    case rel=>
     have:=fill_set (ad HX) (by rw[ad p8];omega) A.ts[k].2;rw[ad p8] at this;refine⟨k+1,L++[A.ts[k].2],by omega,rfl,by go_num,?_,?_,this,(ad gw).setCell (by simp) _⟩
     ·rw[List.take_succ_eq_append_getElem aN,List.map_append,ad HL];rfl
     ·rw[List.take_succ_eq_append_getElem aN,List.any_append,ad AV];simp[ad HV]
   | true=>
    have nA:wr.cell? ⟨g,k,none⟩=some (.iface 130 (.string A.ts[k].2)):=(by rw[gD];unfold termV;rw[hv];rfl);have HE:=hide (show thOf A=none by unfold thOf;rw[if_pos (List.any_eq_true.2 ⟨_,List.getElem_mem aN,hv⟩)]);clear gD hv;go_wp2_with (first | (refine wpList_store_row rfl 88 _ _ rfl _ _ rfl rfl _ _ (ad qc) (by rw[infoTh];rfl) rfl (thCells_one ({ data:=#[] },[])) ?_) | fail);refine bodyPost_ret (v:=.tuple #[thV ({ data:=#[] },[]),.bool false]) (results_th Tryz.results65 _ _ _ _ rfl (setRow_heap _ _ _ _ _ _ (ad qc))) rfl ?_;rw[ad HE];exact⟨below_setRow (ad lu) (by omega) _,rfl⟩
  ·have HE:=hide (show thOf A=some (A.p,L) by unfold thOf;rw[List.take_of_length_le (by omega)] at hL oO;rw[oO,hL];rfl);clear sY hx cV hL ik oO;go_wp2_with (first | (refine wpList_load_row rfl 88 _ rfl _ rfl _ _ _ _ (ad HX) Tryz.underlying88 rfl (by rw[infoTh];rfl) ?_) | (refine wpList_store_row rfl 88 _ _ rfl _ _ rfl rfl _ _ (ad qc) (by rw[infoTh];rfl) rfl (thCells_one _) ?_) | fail);refine bodyPost_ret (v:=.tuple #[thV (A.p,L),.bool true]) (results_th Tryz.results65 _ _ _ _ rfl (setRow_heap _ _ _ _ _ _ (ad qc))) rfl ?_;rw[ad HE];exact⟨below_setRow (ad lu) (by omega) _,rfl⟩
end
section
open Go.RowKit Go.Maps
attribute [local go_sem ↓] to_tLoad to_tStore to_tAlloc thV_cells
attribute [local go_sem] tStore_new run_tAlloc
def thingS (ps:P9)(s:B8):Option Th:=(askedS ps s).bind thOf
theorem TV.result {fn:Func}{p u:Tmp}(h:fn.results=#[.cell p 88,.tmp u]){w:W8}{g:Nat}{t:Th}(hg:TV w g t)(tmps:Array Value)(hp:tmps.getD p undef=.pointer (some ⟨g,0,none⟩)):(results fn tmps).run Tryz.prog w=.ok (.tuple #[thV t,tmps.getD u undef]) w:=results_th h tmps w g t hp hg
theorem readthing_any (w:W8)(s:B8)(tb n:Nat)(ps:P9)(S:B8->Nat)(h:SMap Tryz.prog 9 w tb n (stV ps S))(hs:s.size<=2000000):
  Calls Tryz.prog 41 #[.string s,.map (some tb)] w (ThOfPost w (thingS ps s)):=by
 have fZ:=h.lt;have k0:Below w.heap.size w (w.alloc (.cells (aq ({ data:=#[] },[])).toArray 88)):=B9.alloc L9 _;have HA:=hide (readasked_any (w.alloc (.cells (aq ({ data:=#[] },[])).toArray 88)) s tb n ps S (h.block (k0.block tb fZ)) hs);have cq:=hide k0;clear h k0;go_enter Tryz.func41,Tryz.ntmps41;go_wp2_with fail;refine (ad HA).mono ?_;rintro e w1 ⟨aT,hp⟩;have cB:w.heap.size+1<=w1.heap.size:=by have:=aT.size;simpa using this
 have fA:Below w.heap.size w w1:=(ad cq).trans (aT.mono (by simp));have fY:TV w1 w.heap.size ({ data:=#[] },[]):=(aT.block _ (by simp)).trans (heap_alloc_new w _)
 cases hP:askedS ps s with
 | none=>
  rw[hP] at hp;subst hp;have HN:=hide (show thingS ps s=none by unfold thingS;rw[hP];rfl);have iF:TV (w1.alloc (.cells #[.string { data:=#[] },.slice none 0 0] 79)) w.heap.size ({ data:=#[] },[]):=fY.alloc _;have dj:(tStore (.pointer (some ⟨w.heap.size,0,none⟩)) (.agg #[.string { data:=#[] },.string { data:=#[] },.string { data:=#[] },.string { data:=#[] },.string { data:=#[] }])).run Tryz.prog (w1.alloc (.cells #[.string { data:=#[] },.slice none 0 0] 79))=.ok () ((w1.alloc (.cells #[.string { data:=#[] },.slice none 0 0] 79)).setRow w.heap.size (aq ({ data:=#[] },[])).toArray):=iF.store ({ data:=#[] },[]);have Bu:=hide iF;have HB:=hide (fA.alloc fA.size (.cells #[.string { data:=#[] },.slice none 0 0] 79));have hz:=run_tZero;clear hP fY aT fA iF;go_wp2_with fail;refine bodyPost_ret (v:=.tuple #[thV ({ data:=#[] },[]),.bool false]) (TV.result Tryz.results41 (setRow_heap _ _ _ _ _ _ (ad Bu)) _ rfl) rfl ?_;rw[ad HN];exact⟨below_setRow (ad HB) L9 _,rfl⟩
 | some A=>
  rw[hP] at hp;obtain⟨a,c,rfl,aE⟩:=hp;obtain⟨hsz,h4⟩:A.p.size<=s.size/\A.ts.length<=4:=by
   unfold askedS at hP
   split at hP
   ·cases hP
   ·rename_i A' hA
    split at hP
    ·cases hP;exact pask_size hA
    ·cases hP
  have xj:=hide (show thingS ps s=thOf A by unfold thingS;rw[hP];rfl);have HO:=hide (thof_any (w1.alloc (.cells #[.string A.p,.slice a A.ts.length c] 79)) _ A a c (aE.alloc _) h4);have fu:=fA.alloc fA.size (.cells #[.string A.p,.slice a A.ts.length c] 79);have zk:TV (w1.alloc (.cells #[.string A.p,.slice a A.ts.length c] 79)) w.heap.size ({ data:=#[] },[]):=fY.alloc _;have rF:=hide fu;have Ic:=hide zk;clear hP fY aT fA aE fu zk;generalize thOf A=R at *;go_wp2_with fail;refine (ad HO).mono ?_;rintro e w2 ⟨aU,rfl⟩;have fc:TV w2 w.heap.size ({ data:=#[] },[]):=(ad Ic).below aU;have dj:=fc.store (R.getD ({ data:=#[] },[]));have rO:=hide fc;have ep:=hide ((ad rF).trans (aU.mono (ad rF).size));clear aU fc;go_wp2_with fail;refine bodyPost_ret (v:=.tuple #[thV (R.getD ({ data:=#[] },[])),.bool R.isSome]) (TV.result Tryz.results41 (setRow_heap _ _ _ _ _ _ (ad rO)) _ rfl) rfl ?_;rw[ad xj];exact⟨below_setRow (ad ep) L9 _,rfl⟩
def a8 (ps:P9)(S:B8->Nat)(K:List (Th × Nat))(t:Th):Nat:=if (numOf ps t.1).isSome then (if (ay K t).isSome then S t.1 else S t.1+1) else 0
theorem whole_any (w:W8)(tb n kb:Nat)(ps:P9)(S:B8->Nat)(K:List (Th × Nat))(t:Th)(h:SMap Tryz.prog 9 w tb n (stV ps S))(hm:aM w kb K)(ht:ThOk t)(hS:S t.1<=1000000):
  Calls Tryz.prog 66 #[.map (some tb),.map (some kb),thV t] w λ e w'=>e=.returned (.int .i64 (a8 ps S K t:Nat))/\Below w.heap.size w w':=by
 have fZ:=h.lt;have du:=hm.lt;have k0:Below w.heap.size w (w.alloc (.cells (aq t).toArray 88)):=B9.alloc L9 _;have vN:=h.block (k0.block tb fZ);have q0:(w.alloc (.cells (aq t).toArray 88)).cell? ⟨w.heap.size,0,none⟩=some (.string t.1):=(block_cells (TV.new w t) 0).1;have pe:t.1.size<=maxLen:=by have:=ht.pd;unfold maxLen;simp only[Th.p] at this;omega
 have HM:=hide hm;have cq:=hide k0;obtain⟨ct,eM⟩:∃ ct,ct=(aq t).toArray:=⟨_,rfl⟩;have fw:=hide eM;unfold thV;rw[<-eM] at q0 vN cq ⊢;clear h hm k0 eM
 cases hn:numOf ps t.1 with
 | none=>
  have HE:=hide (show a8 ps S K t=0 by unfold a8;rw[hn];rfl);have hu:(stV ps S t.1).getD (.agg #[.string { data:=#[] },.int .i64 0,.int .i64 0])=.agg #[.string { data:=#[] },.int .i64 0,.int .i64 0]:=by unfold stV;rw[hn];rfl
  have hc:(stV ps S t.1).isSome=false:=by unfold stV;rw[hn];rfl
  clear hn;go_enter Tryz.func66,Tryz.ntmps66;go_wp2_with (at_lookup;refine wp_look_ok _ rfl _ _ 73 rfl 9 185 Tryz.underlying9 Tryz.underlying73 (Tryz.zeroValue185 _) tb n (stV ps S) rfl vN t.1 rfl pe _ hu _ hc ?_);go_ret;exact⟨by rw[ad HE];rfl,(ad cq).alloc (ad cq).size _⟩
 | some m=>
  have hu:(stV ps S t.1).getD (.agg #[.string { data:=#[] },.int .i64 0,.int .i64 0])=.agg #[.string t.1,.int .i64 (S t.1),.int .i64 m]:=by unfold stV;rw[hn];rfl
  have hc:(stV ps S t.1).isSome=true:=by unfold stV;rw[hn];rfl
  have HW:=hide (show a8 ps S K t=if (ay K t).isSome then S t.1 else S t.1+1 by unfold a8;rw[hn];rfl);have bB:Below w.heap.size w ((w.alloc (.cells ct 88)).alloc (.cells #[.string t.1,.int .i64 (S t.1),.int .i64 m] 185)):=(ad cq).alloc (ad cq).size _;have tB:(tLoad (.pointer (some ⟨w.heap.size,0,none⟩))).run Tryz.prog ((w.alloc (.cells ct 88)).alloc (.cells #[.string t.1,.int .i64 (S t.1),.int .i64 m] 185))=.ok (thV t) ((w.alloc (.cells ct 88)).alloc (.cells #[.string t.1,.int .i64 (S t.1),.int .i64 m] 185)):=by rw[ad fw];exact ((TV.new w t).alloc _).load
  have lB:=((ad HM).block (bB.block kb du)).look ht Tryz.underlying83;have zR:=hide bB;clear hn bB
  cases hf:(ay K t).isSome with
  | true=>
   have HE:=hide (show a8 ps S K t=S t.1 by rw[ad HW,hf];rfl);rw[hf] at lB;clear hf;go_enter Tryz.func66,Tryz.ntmps66;go_wp2_with (at_lookup;refine wp_look_ok _ rfl _ _ 73 rfl 9 185 Tryz.underlying9 Tryz.underlying73 (Tryz.zeroValue185 _) tb n (stV ps S) rfl vN t.1 rfl pe _ hu _ hc ?_);go_ret;exact⟨by rw[ad HE];rfl,ad zR⟩
  | false=>
   have HE:=hide (show a8 ps S K t=S t.1+1 by rw[ad HW,hf];rfl);rw[hf] at lB;clear hf;go_enter Tryz.func66,Tryz.ntmps66;go_wp2_with (at_lookup;refine wp_look_ok _ rfl _ _ 73 rfl 9 185 Tryz.underlying9 Tryz.underlying73 (Tryz.zeroValue185 _) tb n (stV ps S) rfl vN t.1 rfl pe _ hu _ hc ?_);go_ret;exact⟨by rw[ad HE];simp,ad zR⟩
end
section
open Go.RowKit
def groundB (A:RAtom):Bool:=A.aS.all λ t=>!t.isVar
end
section
open Go.RowKit
def u8c (x:Nat):Value:=.int .u8 ((x:Int)%256)
end
section
open Go.RowKit
def setB (B:Nat->Bool)(i:Nat)(v:Bool):Nat->Bool:=λ j=>if j=i then v else B j
def markFrom (B:Nat->Bool)(fr:List Nat):Nat->Bool:=fr.foldl (λ B x=>setB B x true) B
theorem markFrom_take {B:Nat->Bool}{fr:List Nat}{j:Nat}(h:j<fr.length):markFrom B (fr.take (j+1))=setB (markFrom B (fr.take j)) fr[j] true:=by
 unfold markFrom;rw[List.take_succ_eq_append_getElem h,List.foldl_append];rfl
end
section
open Go.RowKit Go.Maps
theorem thOf_pa (A:RAtom):thOf (pa A)=if groundB A then some (thA A) else none:=by
 unfold thOf groundB thA pa;simp only[List.any_map,List.map_map];have e:(A.aS.any ((λ x=>x.1) ∘ dI))=!(A.aS.all λ t=>!t.isVar):=by
  induction A.aS with
  | nil=>rfl
  | cons t r ih=>
   rw[List.any_cons,List.all_cons,ih]
   show (t.isVar||_)=_
   cases t.isVar <;> simp
 rw[e]
 cases (A.aS.all λ t=>!t.isVar) with
 | true=>rfl
 | false=>rfl
theorem thing_eq (ps:P9)(q:B8):thingS ps q=if askOk ps q&&groundB (askAtom q) then some (thA (askAtom q)) else none:=by
 unfold thingS;rw[asked_eq]
 cases askOk ps q with
 | false=>rfl
 | true=>
  rw[if_pos rfl,Bool.true_and];exact thOf_pa (askAtom q)
end
end Go.Proofs.YtldkpahaocjdpaaGreat
