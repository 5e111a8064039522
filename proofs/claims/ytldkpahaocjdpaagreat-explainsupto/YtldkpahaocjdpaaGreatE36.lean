/-
  Plain: matching. What the reference's environments and texts are to the program's bindings and things.
-/
import Derived.Test.YtldkpahaocjdpaaGreatE35
import Derived.Deep.Upon
set_option maxHeartbeats 16000000
set_option maxRecDepth 1000000
namespace Go.Proofs.YtldkpahaocjdpaaGreat
section
def pa (A:zL):jZ:=⟨A.pred,A.ae.map ed⟩
def bM (A:zL):Th:=(A.pred,A.ae.map (·.text))
theorem zjh (n:B8):∀ e:Env,zj6 e n=nW e n
 | []=>rfl
 | x::r=>by
  have:=zjh n r;unfold nW at this ⊢;rw[zj6,pAt]
  split
  ·rfl
  ·exact this
theorem zt0 (e:Env)(t:xE):nT e t=bR e (ed t):=by
 unfold nT bR ed;simp only
 split
 ·exact zjh _ _
 ·rfl
theorem Ho (e:Env)(A:zL):bM (eN e A)=xV e (pa A):=by
 unfold bM eN xV pa;simp only[List.map_map];refine Prod.ext rfl ?_;refine List.map_congr_left λ t _=>?_
 exact zt0 e t
theorem zox:∀ (ts us:List (Bool × B8)) (i:Nat),ts.map (·.2)=us.map (·.2)->xK ts i=xK us i
 | [],[],_,_=>rfl
 | [],_::_,_,h=>by cases h
 | _::_,[],_,h=>by cases h
 | t::ts,u::us,i,h=>by
  rw[List.map_cons,List.map_cons] at h;injection h with h1 h2
  rw[xK,xK,h1,zox ts us (i+1) h2]
theorem z2m {pd:B8}{ts us:List (Bool × B8)}(h:ts.map (·.2)=us.map (·.2)):zaw pd ts=zaw pd us:=by
 have hl:ts.length=us.length:=by have:=congrArg List.length h;simpa using this
 unfold zaw;rw[zox ts us 0 h,hl]
theorem DQ (A:zL):xP A=xF (bM A):=by
 unfold xP xF jG bM xA;rw[z2m (us:=List.map (λ x=>(false,x)) (List.map (·.text) A.ae)) (by simp[List.map_map,ed,Function.comp_def])]
def z9s (c:UInt8):Prop:=c=40\/c=41\/c=44
theorem zi0:∀ {a b x y:List UInt8},(∀ c∈a,¬ z9s c)->(∀ c∈b,¬ z9s c)->(∀ c,x.head?=some c->z9s c)->(∀ c,y.head?=some c->z9s c)->a++x=b++y->a=b/\x=y
 | [],[],_,_,_,_,_,_,h=>⟨rfl,h⟩
 | [],c::b,x,y,_,hb,hx,_,h=>by
  rw[List.nil_append,List.cons_append] at h;exact absurd (hx c (by rw[h];rfl)) (hb c List.mem_cons_self)
 | c::a,[],x,y,ha,_,_,hy,h=>by
  rw[List.nil_append,List.cons_append] at h;exact absurd (hy c (by rw[<-h];rfl)) (ha c List.mem_cons_self)
 | c::a,d::b,x,y,ha,hb,hx,hy,h=>by
  rw[List.cons_append,List.cons_append] at h;injection h with h1 h2
  obtain⟨e1,e2⟩:=zi0 (λ c hc=>ha c (List.mem_cons_of_mem _ hc)) (λ c hc=>hb c (List.mem_cons_of_mem _ hc)) hx hy h2;exact⟨by rw[h1,e1],e2⟩
variable {x:B8}
theorem lM.sep (h:lM x):∀ c∈x.data.toList,¬ z9s c:=λ c hc=>by
 have:=h.no c hc;unfold z9s;simp[this]
theorem zvp {y:B8}(h:x.data.toList=y.data.toList):x=y:=by
 cases x;cases y
 simp only at h;rw[Array.toList_inj.1 h]
theorem zmm (ts:List (Bool × B8))(i:Nat):∀ c,(xK ts i++[41]).head?=some c->z9s c:=by
 intro c h
 cases ts with
 | nil=>simp[xK] at h;exact .inr (.inl h.symm)
 | cons t r=>
  rw[xK] at h;simp only[List.cons_append,List.head?_cons,Option.some.injEq] at h;rw[<-h]
  split
  ·exact .inl rfl
  ·exact .inr (.inr rfl)
theorem zrj:∀ (ts us:List (Bool × B8)) (i:Nat),(∀ t∈ts,lM t.2)->(∀ t∈us,lM t.2)->xK ts i++[41]=xK us i++[41]->ts.map (·.2)=us.map (·.2)
 | [],[],_,_,_,_=>rfl
 | [],u::us,i,_,_,h=>by
  rw[xK,xK,List.cons_append] at h;simp only[List.nil_append] at h;injection h with h1 _
  split at h1 <;> exact absurd h1 (by decide)
 | t::ts,[],i,_,_,h=>by
  rw[xK,xK,List.cons_append] at h;simp only[List.nil_append] at h;injection h with h1 _
  split at h1 <;> exact absurd h1 (by decide)
 | t::ts,u::us,i,ht,hu,h=>by
  rw[xK,xK,List.cons_append,List.cons_append] at h;injection h with _ h2
  rw[List.append_assoc,List.append_assoc] at h2;obtain⟨e1,e2⟩:=zi0 (ht t List.mem_cons_self).sep (hu u List.mem_cons_self).sep (zmm _ _) (zmm _ _) h2;rw[List.map_cons,List.map_cons,zvp e1,zrj ts us (i+1) (λ x hx=>ht x (List.mem_cons_of_mem _ hx)) (λ x hx=>hu x (List.mem_cons_of_mem _ hx)) e2]
structure EB (t:Th):Prop where
 pd:lM t.1
 ts:∀ x∈t.2,lM x
theorem zlf (t:Th):(xA t).map (·.2)=t.2:=by unfold xA;simp[List.map_map,Function.comp_def]
variable {t:Th}
theorem EB.ae (h:EB t):∀ x∈xA t,lM x.2:=by
 intro x hx;obtain⟨y,hy,rfl⟩:=List.mem_map.1 hx;exact h.ts y hy
theorem zv7 (ts:List (Bool × B8)):∀ c,(xK ts 0++if ts.length=0 then [] else [41]).head?=some c->z9s c:=by
 intro c h
 cases ts with
 | nil=>simp[xK] at h
 | cons t r=>
  rw[if_neg (by simp)] at h;exact zmm _ _ c h
theorem zd6 {u:Th}(ht:EB t)(hu:EB u)(h:xF t=xF u):t=u:=by
 have h':zaw t.1 (xA t)=zaw u.1 (xA u):=by
  have:=congrArg (λ x:B8=>x.data.toList) h;simpa[xF] using this
 unfold zaw at h';obtain⟨e1,e2⟩:=zi0 ht.pd.sep hu.pd.sep (zv7 _) (zv7 _) h';have e3:(xA t).map (·.2)=(xA u).map (·.2):=by
  cases hT:xA t with
  | nil=>
   cases hU:xA u with
   | nil=>rfl
   | cons x r=>rw[hT,hU] at e2;simp[xK] at e2
  | cons y q=>
   cases hU:xA u with
   | nil=>rw[hT,hU] at e2;simp[xK] at e2
   | cons x r=>
    rw[hT,hU,if_neg (by simp),if_neg (by simp)] at e2;have h1:=ht.ae;have h2:=hu.ae;rw[hT] at h1;rw[hU] at h2;exact zrj _ _ 0 h1 h2 e2
 rw[zlf,zlf] at e3;exact Prod.ext (zvp e1) e3
def oq (e:yR):Prop:=∀ p∈e,lM p.2
variable {v:B8} {e:yR}
theorem zv1 (h:oq e)(hx:pAt e v=some x):lM x:=by
 induction e with
 | nil=>cases hx
 | cons p r ih=>
  rw[pAt] at hx
  split at hx
  ·cases hx;exact h p List.mem_cons_self
  ·exact ih (λ q hq=>h q (List.mem_cons_of_mem _ hq)) hx
theorem oq.snoc (h:oq e)(hx:lM x):oq (e++[(v,x)]):=by
 intro p hp;rcases List.mem_append.1 hp with hp | hp
 ·exact h p hp
 ·rw[List.mem_singleton.1 hp];exact hx
theorem lM.list (h:lM x):(x.toList==[])=false:=by
 have:=h.ne;have e:x.toList≠[]:=by
  rw[ByteArray.toList_eq];intro e;have:=congrArg List.length e;rw[jH,List.length_nil] at this;omega
 simp[e]
theorem zgf:∀ (ts us:List xE) (e:Env),ts.length=us.length->oq e->(∀ t∈ts,lM t.text)->(∀ u∈us,lM u.text)->jB e ts us=zj5 e (ts.map ed) (us.map (·.text))
 | [],[],e,_,_,_,_=>by rw[jB];rfl;simp
 | [],_::_,_,h,_,_,_=>by cases h
 | _::_,[],_,h,_,_,_=>by cases h
 | t::ts,u::us,e,h,he,ht,hu=>by
  have hl:ts.length=us.length:=by simpa using h
  have C0:∀ x∈ts,lM x.text:=λ x hx=>ht x (List.mem_cons_of_mem _ hx)
  have lU:∀ x∈us,lM x.text:=λ x hx=>hu x (List.mem_cons_of_mem _ hx)
  have WM:=hu u List.mem_cons_self;rw[jB,List.map_cons,List.map_cons,zj5];simp only[List.headD_cons,List.tail_cons];unfold pmT
  cases hv:t.isVar with
  | true=>
   have e1:nT e t=nW e t.text:=(by unfold nT;rw[hv,if_pos rfl];exact zjh _ _);simp only[ed,hv,if_true];rw[e1];unfold pmB nW
   cases hp:pAt e t.text with
   | none=>
    have:((Option.none:Option B8).getD { data:=#[] }).toList==[]:=by rw[ByteArray.toList_eq];rfl
    rw[if_pos this];exact zgf ts us _ hl (he.snoc WM) C0 lU
   | some x=>
    have hx:=(zv1 he hp).list;simp only[Option.getD_some];rw[if_neg (by rw[hx];decide)]
    by_cases c:(x.toList==u.text.toList)=true
    ·rw[if_pos c,if_pos c];exact zgf ts us _ hl he C0 lU
    ·rw[if_neg c,if_neg c]
  | false=>
   have e1:nT e t=t.text:=(by unfold nT;rw[hv,if_neg (by decide)]);simp only[ed,hv];rw[e1,if_neg (by rw[(ht t List.mem_cons_self).list];decide)]
   by_cases c:(t.text.toList==u.text.toList)=true
   ·rw[if_pos c,if_neg (by decide),if_pos c];exact zgf ts us _ hl he C0 lU
   ·rw[if_neg c,if_neg (by decide),if_neg c]
structure ziu (ps:P9)(a:jZ):Prop where
 w:zl8 a.p a.ts
 num:yY ps a.p=some a.ts.length
structure iC (ps:P9)(t:Th):Prop where
 w:EB t
 num:yY ps t.1=some t.2.length
 eJ:t.2.length<=4
theorem zru {e:Env}{a th:zL}(he:oq e)(ha:zl8 (pa a).p (pa a).ts)(ht:EB (bM th))(hn:a.pred=th.pred->a.ae.length=th.ae.length):qA e a th=xG e (pa a) (bM th):=by
 unfold qA xG;have hb:(a.pred.toList==th.pred.toList)=true↔a.pred=th.pred:=xO
 by_cases c:(a.pred.toList==th.pred.toList)=true
 ·have hl:=hn (hb.1 c);rw[if_pos (by rw[c,hl];simp),show (pa a).p=a.pred from rfl,show Th.p (bM th)=th.pred from rfl,if_pos c];refine zgf _ _ _ hl he (λ t h=>?_) (λ t h=>ht.ts _ (List.mem_map.2 ⟨t,h,rfl⟩));exact ha.ts (ed t) (List.mem_map.2 ⟨t,h,rfl⟩)
 ·rw[if_neg (by simp only[Bool.and_eq_true];exact λ h=>c h.1),show (pa a).p=a.pred from rfl,show Th.p (bM th)=th.pred from rfl,if_neg c]
end
section
theorem Hs (v n u:B8):∀ e:yR,pAt (e++[(v,n)]) u=match pAt e u with | some x=>some x | none=>if v.toList==u.toList then some n else none
 | []=>by rw[List.nil_append,pAt,pAt];simp[pAt]
 | x::r=>by
  rw[List.cons_append,pAt,pAt]
  by_cases c:(x.1.toList==u.toList)=true
  ·rw[if_pos c,if_pos c]
  ·rw[if_neg c,if_neg c];exact Hs v n u r
structure El (e e':yR)(k:Nat):Prop where
 w:oq e'
 len:e'.length<=e.length+k
 ext:∀ v x,pAt e v=some x->pAt e' v=some x
variable {e:yR}
theorem El.refl (h:oq e):El e e 0:=⟨h,by omega,λ _ _ h=>h⟩
variable {e':yR}
theorem yai {t:zd8}{n:B8}(hn:lM n)(he:oq e)(h:pmT e t n=some e'):El e e' 1/\(t.1=true->∃ x,pAt e' t.2=some x):=by
 unfold pmT at h
 by_cases hv:t.1=true
 ·rw[if_pos hv] at h;unfold pmB at h
  cases hp:pAt e t.2 with
  | none=>
   rw[hp] at h
   cases h
   refine⟨⟨he.snoc hn,by simp,λ v x hx=>by rw[Hs,hx]⟩,λ _=>⟨n,?_⟩⟩;rw[Hs,hp];simp
  | some x=>
   rw[hp] at h;simp only at h
   split at h
   ·cases h;exact⟨⟨he,by omega,λ _ _ h=>h⟩,λ _=>⟨x,hp⟩⟩
   ·cases h
 ·rw[if_neg hv] at h
  split at h
  ·cases h;exact⟨⟨he,by omega,λ _ _ h=>h⟩,λ c=>absurd c hv⟩
  ·cases h
theorem zw9:∀ (ts:List zd8) (ns:List B8) (e e':yR),ts.length=ns.length->(∀ x∈ns,lM x)->oq e->zj5 e ts ns=some e'->El e e' ts.length/\∀ t∈ts,t.1=true->∃ x,pAt e' t.2=some x
 | [],_,e,e',_,_,he,h=>by
  rw[zj5] at h
  cases h
  exact⟨El.refl he,by simp⟩
 | t::ts,[],_,_,hl,_,_,_=>by cases hl
 | t::ts,n::ns,e,e',hl,hn,he,h=>by
  rw[zj5] at h;simp only[List.headD_cons,List.tail_cons] at h
  cases h1:pmT e t n with
  | none=>rw[h1] at h;cases h
  | some e1=>
   rw[h1] at h;simp only at h;obtain⟨g1,b1⟩:=yai (hn n List.mem_cons_self) he h1;obtain⟨g2,b2⟩:=zw9 ts ns e1 e' (by simpa using hl) (λ x hx=>hn x (List.mem_cons_of_mem _ hx)) g1.w h;refine⟨⟨g2.w,by have:=g1.len;have:=g2.len;simp;omega,λ v x hx=>g2.ext v x (g1.ext v x hx)⟩,λ u hu hv=>?_⟩;rcases List.mem_cons.1 hu with rfl | hu
   ·obtain⟨x,hx⟩:=b1 hv;exact⟨x,g2.ext _ _ hx⟩
   ·exact b2 u hu hv
variable {t:Th} {a:jZ} {ps:P9}
theorem zgb (ha:ziu ps a)(ht:iC ps t)(he:oq e)(h:xG e a t=some e'):El e e' 4/\∀ t∈a.ts,t.1=true->∃ x,pAt e' t.2=some x:=by
 unfold xG at h
 split at h
 ·rename_i c;have hp:a.p=t.1:=xO.1 c;have hl:a.ts.length=t.2.length:=by
   have h1:=ha.num;rw[hp,ht.num] at h1;exact (Option.some.inj h1).symm
  obtain⟨g,b⟩:=zw9 a.ts t.2 e e' hl ht.w.ts he h;exact⟨⟨g.w,by have:=g.len;have:=ha.w.eJ;omega,g.ext⟩,b⟩
 ·cases h
theorem zft {ps:P9}{K:List (Th × Nat)}(hK:∀ p∈K,iC ps p.1):∀ (pos:List jZ) (e0 e:yR),(∀ a∈pos,ziu ps a)->oq e0->e∈yD K pos e0->El e0 e (4*pos.length)/\∀ a∈pos,∀ t∈a.ts,t.1=true->∃ x,pAt e t.2=some x
 | [],e0,e,_,he,h=>by
  rw[yD] at h;rw[List.mem_singleton.1 h];exact⟨El.refl he,by simp⟩
 | a::r,e0,e,ha,he,h=>by
  rw[yD] at h;obtain⟨p,hp,h⟩:=List.mem_flatMap.1 h
  cases hm:xG e0 a p.1 with
  | none=>rw[hm] at h;simp at h
  | some e1=>
   rw[hm] at h;simp only at h;obtain⟨g1,b1⟩:=zgb (ha a List.mem_cons_self) (hK p hp) he hm;obtain⟨g2,b2⟩:=zft hK r e1 e (λ x hx=>ha x (List.mem_cons_of_mem _ hx)) g1.w h;refine⟨⟨g2.w,by have:=g1.len;have:=g2.len;simp;omega,λ v x hx=>g2.ext v x (g1.ext v x hx)⟩,λ x hx t ht hv=>?_⟩;rcases List.mem_cons.1 hx with rfl | hx
   ·obtain⟨y,hy⟩:=b1 t ht hv;exact⟨y,g2.ext _ _ hy⟩
   ·exact b2 x hx t ht hv
theorem zh0 {A:jZ}(hA:ziu ps A)(he:oq e)(hb:∀ t∈A.ts,t.1=true->∃ x,pAt e t.2=some x):iC ps (xV e A):=by
 refine⟨⟨hA.w.pd,λ x hx=>?_⟩,?_,?_⟩
 ·obtain⟨t,ht,rfl⟩:=List.mem_map.1 hx;unfold bR
  split
  ·rename_i hv;obtain⟨x,h1⟩:=hb t ht hv;unfold nW;rw[h1];exact zv1 he h1
  ·exact hA.w.ts t ht
 ·show yY ps A.p=some (A.ts.map (bR e)).length
  rw[List.length_map];exact hA.num
 ·show (A.ts.map (bR e)).length<=4
  rw[List.length_map];exact hA.w.eJ
theorem iC.ok (h:iC ps t):zdu t:=
 ⟨by have:=h.w.pd.le;show t.1.size<=_;omega,h.eJ,λ x hx=>by have:=(h.w.ts x hx).le;omega,λ x hx=>(h.w.ts x hx).ne⟩
variable {ls:List (vK × Value)}
theorem ybl:a∈yP ls↔∃ x∈ls,x.1.neg=false/\a=⟨x.1.pd,x.1.ts⟩:=by
 unfold yP vW;simp only[List.map_map,List.mem_map,List.mem_filter,Function.comp_def,zk9,vA]
 constructor
 ·rintro⟨x,⟨h1,h2⟩,rfl⟩;exact⟨x,h1,by simpa using h2,rfl⟩
 ·rintro⟨x,h1,h2,rfl⟩;exact⟨x,⟨h1,by simp[h2]⟩,rfl⟩
theorem ybf:a∈zco ls↔∃ x∈ls,x.1.neg=true/\a=⟨x.1.pd,x.1.ts⟩:=by
 unfold zco vW;simp only[List.map_map,List.mem_map,List.mem_filter,Function.comp_def,zk9,vA]
 constructor
 ·rintro⟨x,⟨h1,h2⟩,rfl⟩;exact⟨x,h1,by simpa using h2,rfl⟩
 ·rintro⟨x,h1,h2,rfl⟩;exact⟨x,⟨h1,by simp[h2]⟩,rfl⟩
structure nL (ps:P9)(r:PR):Prop where
 l3:r.bs.length<=3
 hd:ziu ps (fU r)
 ls:∀ x∈r.bs,ziu ps ⟨x.1.pd,x.1.ts⟩
 BN:∀ t∈(fU r).ts,t.1=true->∃ a∈yP r.bs,t∈a.ts
 D0:∀ x∈zco r.bs,∀ t∈x.ts,t.1=true->∃ a∈yP r.bs,t∈a.ts
variable {r:PR}
theorem nL.pos (h:nL ps r):∀ a∈yP r.bs,ziu ps a:=λ a ha=>by
 obtain⟨x,hx,_,rfl⟩:=ybl.1 ha;exact h.ls x hx
theorem nL.neg (h:nL ps r):∀ a∈zco r.bs,ziu ps a:=λ a ha=>by
 obtain⟨x,hx,_,rfl⟩:=ybf.1 ha;exact h.ls x hx
theorem z2x (ls:List (vK × Value)):(yP ls).length<=ls.length:=by
 unfold yP vW;rw[List.length_map,List.length_map];exact List.length_filter_le _ _
theorem NC:oq []:=λ p hp=>by cases hp
structure yep (ps:P9)(r:PR)(e:yR):Prop where
 w:oq e
 len:e.length<=12
 hd:iC ps (xV e (fU r))
 neg:∀ x∈zco r.bs,iC ps (xV e x)
theorem nL.Gr (h:nL ps r){K:List (Th × Nat)}(hK:∀ p∈K,iC ps p.1)(he:e∈yD K (yP r.bs) []):yep ps r e:=by
 obtain⟨g,b⟩:=zft hK (yP r.bs) [] e h.pos NC he;refine⟨g.w,?_,zh0 h.hd g.w λ t ht hv=>?_,λ x hx=>zh0 (h.neg x hx) g.w λ t ht hv=>?_⟩
 ·have h1:=g.len;have h2:=z2x r.bs;have h3:=h.l3;rw[List.length_nil] at h1;omega
 ·obtain⟨a,ha,Gy⟩:=h.BN t ht hv;exact b a ha t Gy hv
 ·obtain⟨a,ha,Gy⟩:=h.D0 x hx t ht hv;exact b a ha t Gy hv
theorem z2w {rs:List PR}(h:∀ r∈rs,nL ps r):CU rs (iC ps):=λ _ hK r hr=>
 have g:=h r hr
 ⟨⟨g.l3,λ x hx=>(g.ls x hx).w.eJ,g.hd.w.eJ,λ _ he x hx=>((g.Gr hK he).neg x hx).ok,λ _ he=>(g.Gr hK he).hd.ok,λ _ he=>(g.Gr hK he).len⟩,λ _ he=>(g.Gr hK he).hd⟩
theorem yde (h:iC ps t):(zaw t.1 (xA t)).length<=1000000000:=by
 have h1:=zey (xA t) 0 (λ x hx=>by have:=(h.w.ae x hx).le;omega);have h2:(xA t).length=t.2.length:=by unfold xA;simp
 have h3:=h.eJ;have h4:=h.w.pd.le;have h5:=jH t.1;unfold zaw;rw[List.length_append,List.length_append];have h6:(if (xA t).length=0 then ([]:List UInt8) else [41]).length<=1:=by split <;> simp
 have h7:(xA t).length*1001<=4*1001:=Nat.mul_le_mul_right _ (by omega);omega
end
section
structure gp (ps:P9)(K:List (Th × Nat))(l:List zP):Prop where
 mem:∀ t n,(t,n)∈K↔∃ f∈l,bM f.aj=t/\f.h=n
 Nw:(K.map (·.1)).Nodup
 DU:(l.map λ f=>bM f.aj).Nodup
 dQ:∀ f∈l,iC ps (bM f.aj)
 text:∀ f∈l,f.text=xF (bM f.aj)
theorem Uy (ps:P9):gp ps [] []:=⟨by simp,by simp,by simp,by simp,by simp⟩
variable {l:List zP} {K:List (Th × Nat)} {ps:P9}
theorem gp.ti (h:gp ps K l):∀ p∈K,iC ps p.1:=λ p hp=>by
 obtain⟨f,hf,e,_⟩:=(h.mem p.1 p.2).1 hp;rw[<-e];exact h.dQ f hf
theorem gp.key (h:gp ps K l)(t:Th):t∈K.map (·.1)↔t∈l.map λ f=>bM f.aj:=by
 rw[List.mem_map,List.mem_map]
 constructor
 ·rintro⟨p,hp,rfl⟩;obtain⟨f,hf,e,_⟩:=(h.mem p.1 p.2).1 hp;exact⟨f,hf,e⟩
 ·rintro⟨f,hf,rfl⟩;exact⟨(bM f.aj,f.h),(h.mem _ _).2 ⟨f,hf,rfl,rfl⟩,rfl⟩
theorem gp.perm (h:gp ps K l):(K.map (·.1)).Perm (l.map λ f=>bM f.aj):=(List.perm_ext_iff_of_nodup h.Nw h.DU).2 h.key
theorem gp.len (h:gp ps K l):K.length=l.length:=by
 have:=h.perm.length_eq;simpa using this
theorem gp.look (h:gp ps K l)(t:Th):(yS K t).isSome=true↔∃ f∈l,bM f.aj=t:=by
 constructor
 ·intro hs;obtain⟨n,hn⟩:=Option.isSome_iff_exists.1 hs;obtain⟨f,hf,e,_⟩:=(h.mem t n).1 (jU hn);exact⟨f,hf,e⟩
 ·rintro⟨f,hf,rfl⟩;rw[zbd h.Nw ((h.mem _ _).2 ⟨f,hf,rfl,rfl⟩)];rfl
theorem zrp (t:B8):∀ (l:List zP) (k:Nat),(zaz t l k<0↔∀ f∈l,f.text≠t)
 | [],k=>by simp[zaz]
 | x::r,k=>by
  rw[zaz]
  by_cases c:(x.text.toList==t.toList)=true
  ·rw[if_pos c];have:x.text=t:=xO.1 c
   constructor
   ·intro h;omega
   ·intro h;exact absurd this (h x List.mem_cons_self)
  ·rw[if_neg c,zrp t r (k+1)];have hx:x.text≠t:=λ e=>c (xO.2 e)
   constructor
   ·intro h f hf;rcases List.mem_cons.1 hf with rfl | hf
    ·exact hx
    ·exact h f hf
   ·exact λ h f hf=>h f (List.mem_cons_of_mem _ hf)
theorem zll (l:List zP)(t:B8):jE l t<0↔∀ f∈l,f.text≠t:=zrp t l 0
theorem gp.find (h:gp ps K l){t:Th}(ht:iC ps t):jE l (xF t)<0↔(yS K t).isSome=false:=by
 rw[zll,<-Bool.not_eq_true,h.look]
 constructor
 ·rintro h1 ⟨f,hf,e⟩;exact h1 f hf (by rw[h.text f hf,e])
 ·intro h1 f hf e;refine h1 ⟨f,hf,zd6 (h.dQ f hf).w ht.w ?_⟩;rw[<-h.text f hf,e]
def zqm (b:List zL):List jZ:=(b.filter λ A=>!A.no).map pa
def ybg (b:List zL):List jZ:=(b.filter λ A=>A.no).map pa
theorem zkl {a:zL}{x:Way}{e:Env}:∀ (l:List zP) (i:Nat),(∃ y∈zht a x l i,y.1=e)↔∃ f∈l,qA x.1 a f.aj=some e
 | [],_=>by simp[zht]
 | f::r,i=>by
  have ih:=zkl (a:=a) (x:=x) (e:=e) r (i+1);rw[zht]
  constructor
  ·rintro⟨y,hy,rfl⟩;rcases List.mem_append.1 hy with hy | hy
   ·cases hm:qA x.1 a f.aj with
    | none=>rw[hm] at hy;simp at hy
    | some e'=>
     rw[hm] at hy;rw[List.mem_singleton.1 hy];exact⟨f,List.mem_cons_self,hm⟩
   ·obtain⟨g,hg,e⟩:=ih.1 ⟨y,hy,rfl⟩;exact⟨g,List.mem_cons_of_mem _ hg,e⟩
  ·rintro⟨g,hg,hm⟩;rcases List.mem_cons.1 hg with rfl | hg
   ·refine⟨(e,x.2++[i]),List.mem_append.2 (.inl ?_),rfl⟩;rw[hm];exact List.mem_singleton.2 rfl
   ·obtain⟨y,hy,e⟩:=ih.2 ⟨g,hg,hm⟩;exact⟨y,List.mem_append.2 (.inr hy),e⟩
theorem zp3 {ps:P9}{K:List (Th × Nat)}{l:List zP}(hS:gp ps K l):∀ (b:List zL) (now:List Way) (e:yR),(∀ a∈b,ziu ps (pa a))->(∀ x∈now,oq x.1)->((∃ y∈zip l b now,y.1=e)↔∃ x∈now,e∈yD K (zqm b) x.1)
 | [],now,e,_,_=>by
  rw[zip]
  constructor
  ·rintro⟨y,hy,rfl⟩;exact⟨y,hy,List.mem_singleton.2 rfl⟩
  ·rintro⟨y,hy,h⟩;exact⟨y,hy,(List.mem_singleton.1 h).symm⟩
 | a::r,now,e,ha,hn=>by
  have L5:∀ x∈r,ziu ps (pa x):=λ x hx=>ha x (List.mem_cons_of_mem _ hx)
  have vb:=ha a List.mem_cons_self;rw[zip]
  cases aW:a.no with
  | true=>
   have e1:zqm (a::r)=zqm r:=(by unfold zqm;rw[List.filter_cons,aW];simp);rw[if_pos rfl,e1];exact zp3 hS r now e L5 hn
  | false=>
   have e1:zqm (a::r)=pa a::zqm r:=(by unfold zqm;rw[List.filter_cons,aW];simp);have key:∀ x∈now,∀ f∈l,qA x.1 a f.aj=xG x.1 (pa a) (bM f.aj):=λ x hx f hf=>by
    refine zru (hn x hx) vb.w (hS.dQ f hf).w λ e=>?_
    have h1:yY ps a.pred=some (pa a).ts.length:=vb.num;have h2:yY ps f.aj.pred=some (bM f.aj).2.length:=(hS.dQ f hf).num;rw[e,h2] at h1;have:=Option.some.inj h1;simp only[bM,pa,List.length_map] at this;exact this.symm
   have hw:∀ y∈zgk a l now,oq y.1:=λ y hy=>by
    obtain⟨x,hx,hy⟩:=List.mem_flatMap.1 hy;obtain⟨f,hf,hm⟩:=(zkl l 0).1 ⟨y,hy,rfl⟩;rw[key x hx f hf] at hm;exact (zgb vb (hS.dQ f hf) (hn x hx) hm).1.w
   rw[if_neg (by decide),e1,zp3 hS r (zgk a l now) e L5 hw]
   constructor
   ·rintro⟨y,hy,he⟩;obtain⟨x,hx,hy⟩:=List.mem_flatMap.1 hy;obtain⟨f,hf,hm⟩:=(zkl l 0).1 ⟨y,hy,rfl⟩;rw[key x hx f hf] at hm;refine⟨x,hx,?_⟩;rw[yD];refine List.mem_flatMap.2 ⟨(bM f.aj,f.h),(hS.mem _ _).2 ⟨f,hf,rfl,rfl⟩,?_⟩;rw[hm];exact he
   ·rintro⟨x,hx,he⟩;rw[yD] at he;obtain⟨p,hp,he⟩:=List.mem_flatMap.1 he;obtain⟨f,hf,bI,_⟩:=(hS.mem p.1 p.2).1 hp
    cases hm:xG x.1 (pa a) p.1 with
    | none=>rw[hm] at he;simp at he
    | some e1=>
     rw[hm] at he;have nu:qA x.1 a f.aj=some e1:=(by rw[key x hx f hf,bI];exact hm);obtain⟨y,hy,e2⟩:=(zkl (x:=x) l 0).2 ⟨f,hf,nu⟩;exact⟨y,List.mem_flatMap.2 ⟨x,hx,hy⟩,by rw[e2];exact he⟩
structure sW (R:zS)(r:PR):Prop where
 eq:r.R=yN R
 bd:r.bs.map (·.1)=r.R.body
variable {r:PR} {R:zS}
theorem sW.pos (h:sW R r):yP r.bs=zqm R.body:=by
 have e:r.bs.map (·.1)=R.body.map lK:=by rw[h.bd,h.eq];rfl
 unfold yP vW zqm;have:∀ (ls:List (vK × Value)) (b:List zL),ls.map (·.1)=b.map lK->((ls.filter (vA false)).map zk9).map (·.1)=(b.filter λ A=>!A.no).map pa:=by
  intro ls
  induction ls with
  | nil=>intro b hb;cases b with
   | nil=>rfl
   | cons x r=>cases hb
  | cons x q ih=>
   intro b hb
   cases b with
   | nil=>cases hb
   | cons A b=>
    rw[List.map_cons,List.map_cons] at hb;injection hb with h1 h2
    have:=ih b h2;rw[List.filter_cons,List.filter_cons];have hn:x.1.neg=A.no:=(by rw[h1];rfl);unfold vA at this ⊢;rw[hn]
    cases A.no with
    | true=>simpa using this
    | false=>
     simp only[Bool.not_false,if_true,beq_self_eq_true,List.map_cons];rw[this]
     congr 1
     show (⟨x.1.pd,x.1.ts⟩:jZ)=pa A
     rw[h1];rfl
 exact this _ _ e
theorem sW.neg {R:zS}{r:PR}(h:sW R r):zco r.bs=ybg R.body:=by
 have e:r.bs.map (·.1)=R.body.map lK:=by rw[h.bd,h.eq];rfl
 unfold zco vW ybg;have:∀ (ls:List (vK × Value)) (b:List zL),ls.map (·.1)=b.map lK->((ls.filter (vA true)).map zk9).map (·.1)=(b.filter λ A=>A.no).map pa:=by
  intro ls
  induction ls with
  | nil=>intro b hb;cases b with
   | nil=>rfl
   | cons x r=>cases hb
  | cons x q ih=>
   intro b hb
   cases b with
   | nil=>cases hb
   | cons A b=>
    rw[List.map_cons,List.map_cons] at hb;injection hb with h1 h2
    have:=ih b h2;rw[List.filter_cons,List.filter_cons];have hn:x.1.neg=A.no:=(by rw[h1];rfl);unfold vA at this ⊢;rw[hn]
    cases A.no with
    | false=>simpa using this
    | true=>
     simp only[if_true,beq_self_eq_true,List.map_cons];rw[this]
     congr 1
     show (⟨x.1.pd,x.1.ts⟩:jZ)=pa A
     rw[h1];rfl
 exact this _ _ e
theorem sW.hd (h:sW R r):fU r=pa R.head:=by unfold fU;rw[h.eq];rfl
theorem sW.body (h:sW R r)(hg:nL ps r):∀ a∈R.body,ziu ps (pa a):=λ a ha=>by
 have e:lK a∈r.bs.map (·.1):=by rw[h.bd,h.eq];exact List.mem_map.2 ⟨a,ha,rfl⟩
 obtain⟨x,hx,Pw⟩:=List.mem_map.1 e;have:=hg.ls x hx;rw[Pw] at this;exact this
theorem zfl (hS:gp ps K l)(hr:sW R r)(hg:nL ps r)(e:yR):(∃ y∈ze3 R l,y.1=e)↔e∈zbg K (zco r.bs) (yP r.bs) []:=by
 have h0:(∃ y∈zip l R.body [([],[])],y.1=e)↔e∈yD K (yP r.bs) []:=by
  rw[zp3 hS R.body [([],[])] e (hr.body hg) (λ x hx=>by rw[List.mem_singleton.1 hx];exact NC),hr.pos]
  constructor
  ·rintro⟨x,hx,h⟩;rw[List.mem_singleton.1 hx] at h;exact h
  ·exact λ h=>⟨_,List.mem_singleton.2 rfl,h⟩
 have h1:e∈yD K (yP r.bs) []->(R.body.all (ztj l e)=true↔j7 K (zco r.bs) e=false):=λ he=>by
  have w:=hg.Gr hS.ti he;have wn:=w.neg;rw[hr.neg] at wn ⊢;unfold j7;rw[List.all_eq_true,List.any_eq_false]
  constructor
  ·intro h x hx;obtain⟨A,hA,rfl⟩:=List.mem_map.1 hx;obtain⟨hA,aW⟩:=List.mem_filter.1 hA;have:=h A hA;unfold ztj at this;simp only[aW,Bool.not_true,Bool.false_or,decide_eq_true_eq] at this;rw[DQ,Ho] at this;rw[(hS.find (wn _ hx)).1 this]
   decide
  ·intro h A hA;unfold ztj
   cases aW:A.no with
   | false=>rfl
   | true=>
    have hx:pa A∈ybg R.body:=List.mem_map.2 ⟨A,List.mem_filter.2 ⟨hA,aW⟩,rfl⟩;have:=h _ hx;simp only[Bool.not_true,Bool.false_or,decide_eq_true_eq];rw[DQ,Ho];exact (hS.find (wn _ hx)).2 (by simpa using this)
 unfold ze3 zbg
 constructor
 ·rintro⟨y,hy,rfl⟩;obtain⟨hy,hn⟩:=List.mem_filter.1 hy;have he:=h0.1 ⟨y,hy,rfl⟩;exact List.mem_filter.2 ⟨he,by rw[(h1 he).1 hn];rfl⟩
 ·intro he;obtain⟨he,hn⟩:=List.mem_filter.1 he;obtain⟨y,hy,rfl⟩:=h0.2 he;exact⟨y,List.mem_filter.2 ⟨hy,(h1 he).2 (by simpa using hn)⟩,rfl⟩
end
section
open Go.RowKit
noncomputable def z3a (k:Nat):Code:=((Tryz.f138.body.map zdo).getD []).getD k .skip
structure Ck (w:W8)(o:Nat)(rs:List RR)(ps:P9)(rv pv tv:Value)(gs:Nat)(S:Nat->Nat):Prop where
 prog:zok w o rs ps rv pv tv (.slice (some ⟨gs,0,none⟩) ps.length ps.length)
 og:mR w gs ps.length S
 body:∀ r∈rs,r.bs.length<=3
 atoms:∀ r∈rs,∀ a∈r.R.head::r.R.body,zn4 a
 N0:∀ r∈rs,0<=zM ps r.R.head.pred
structure wO (w:W8)(v:Value)(fs:List FG)(wr:W8):Prop where
 below:Below w.heap.size w wr
 facts:xB wr w.heap.size v fs
 ok:∀ f∈fs.map (·.F),zc6 f
variable {w:W8}
theorem wO.ctx {o:Nat}{rs:List RR}{ps:P9}{rv pv tv:Value}{gs:Nat}{S:Nat->Nat}{v:Value}{fs:List FG}{wr:W8}(h:wO w v fs wr)(hC:Ck w o rs ps rv pv tv gs S)(hf:fs.length<=50):yeg wr o rs ps rv pv tv gs S w.heap.size fs v:=
 ⟨hC.prog.kept ((zK.refl [] _).ak h.below) (by simp),hC.og.kept ((zK.refl [] _).ak h.below),h.facts,hf,hC.body,λ r hr a ha=>(hC.atoms r hr a ha).eJ,hC.N0,λ r hr x hx a ha=>yav (zxm h.ok _ x hx) (hC.atoms r hr a ha)⟩
variable {base:Nat}
theorem z41 {out:List FG}(h:∀ x∈out,qZ w base x):∀ u∈out.flatMap FG.cells,u.oneCell'=true:=by
 intro u hu;obtain⟨x,hx,hu⟩:=List.mem_flatMap.1 hu;obtain⟨a1,a2,a3,a4,e1,e2⟩:=(h x hx).shape;simp only[FG.cells,e1,e2,List.mem_cons,List.not_mem_nil,or_false] at hu;rcases hu with rfl | rfl | rfl | rfl | rfl | rfl | rfl | rfl | rfl | rfl <;> rfl
variable {xs:V8} {size n cap:Nat} {e:TypeId}
theorem zrd {g:Nat}(h:w.ownsRow base e size (.slice (some ⟨g,0,none⟩) n cap) n xs):∀ j u,xs[j]?=some u->w.cell? ((⟨g,0,none⟩:Addr).add j)=some u:=by
 intro j u hj;have hl:xs.length=n*size:=h.1;have aH:j<xs.length:=(List.getElem?_eq_some_iff.1 hj).1;rcases h.2 with⟨h1,_⟩ | ⟨g',dp,cur,hv,hb,hg,bO,bP,iq,ht⟩
 ·cases h1
 ·injection hv with h1 h2 h3
  injection h1 with h1
  injection h1 with h1
  subst h1;have:=h.cellAt j (by omega);unfold Addr.add
  split <;> simp_all
theorem zc7 {P:Program}{ops:Array Oper}{rest:List Oper}{o:Oper}{a:Act}{Q:Exit->Act->W8->Prop}(Hu:o.guard=none)(s x:Operand)(t:TypeId)(ho:o.op=.call { callee:=.builtin .append,args:=#[s,x],argTypes:=#[t,t] })(v xv:Value)(hs:a.eval s=v)(hx:a.eval x=xv)(hr:∀ ty,(Builtin.append_ #[t,t] ty #[v,xv]).run P w=.ok v w)(h:wpList P ops Q rest (a.put o.dst v) w):wpList P ops Q (o::rest) a w:=
 wpList_plain Hu λ _ hK=>by
  unfold Oper.wp execOp;simp only[ho,resolve,invoke,builtin,Sem.run_bind,Sem.run_pure,Result.andThen_ok,List.map_toArray,List.map_cons,List.map_nil,hs,hx,hr];exact hK _ _ h
theorem z8z (w:W8)(b:O8)(n c:Nat)(h:n<=c)(a:O8)(c':Nat)(ty:TypeId):(Builtin.append_ #[250,250] ty #[.slice b n c,.slice a 0 c']).run Tryz.prog w=.ok (.slice b n c) w:=by
 obtain⟨i0,AF,bL,aY,bf⟩:=info_parts zpi;refine run_append_nothing w _ _ _ 262 i0 Tryz.underlying250 AF b n c h _ ?_
 cases a with
 | none=>exact Src.ofNil w Tryz.underlying250 c'
 | some a=>exact Src.ofSlice w Tryz.underlying250 a 0 c' [] (by simp) (by simp) (by simp)
theorem yau {a:O8}(h:w.ownsRow base e size (.slice a n cap) n xs):n<=cap:=by
 rcases h.2 with⟨h1,h0⟩ | ⟨g',dp,cur,hv,hb,hg,bO,bP,iq,ht⟩
 ·omega
 ·injection hv with h1 h2 h3
  omega
theorem ydc (w:W8)(o:Nat)(rs:List RR)(ps:P9)(rv pv tv:Value)(gs:Nat)(S:Nat->Nat)(hC:Ck w o rs ps rv pv tv gs S)(limit s:Nat)(hlim:limit<=50)(v6:Value)(fs:List FG)(kn:fs.length<=limit)(w1:W8)(hI:wO w v6 fs w1)
  {Q:Exit->Act->W8->Prop} {c2 c3 c7 c8 gy gV ij gw il gZ fE eH eZ fc eW eT eL eV eX eY eO eR eQ fh fj fo ft fk fJ fL fI fY fQ fO gq fV gu dT gd fM gn fP fN fZ gN gQ fG:Value}
  (aT:∀ (DE:Value) (fg:List FG) (w2:W8) (rz ri pX tY tw sC rB rG qg qy qw ql rO qb rA rq pV pU qz nP nE:Value),wO w DE fg w2->fg.length<=limit->zbx ps S (rs.map (·.R)) limit s 1 (fs.map (·.F)) (some (fg.map (·.F)))->Q (.exit 4) ⟨List.toArray (.pointer (some ⟨o,0,none⟩)::.int .i64 limit::c2::c3::.slice none 0 0::.bool false::DE::c7::c8::.int .i64 s::rz::ri::pX::gV::ij::gw::il::gZ::fE::eH::eZ::fc::eW::eT::eL::eV::eX::eY::eO::eR::eQ::fh::fj::fo::ft::fk::tY::tw::sC::rB::rG::qg::qy::qw::ql::rO::qb::rA::rq::pV::pU::qz::nP::nE::fG::[]),[]⟩ w2)
  (mD:∀ (DE:Value) (w2:W8) (rz ri pX tY tw sC rB rG qg qy qw ql rO qb rA rq pV pU qz nP nE:Value),Below w.heap.size w w2->zbx ps S (rs.map (·.R)) limit s 1 (fs.map (·.F)) none->Q .ret ⟨List.toArray (.pointer (some ⟨o,0,none⟩)::.int .i64 limit::c2::c3::.slice none 0 0::.bool false::DE::c7::c8::.int .i64 s::rz::ri::pX::gV::ij::gw::il::gZ::fE::eH::eZ::fc::eW::eT::eL::eV::eX::eY::eO::eR::eQ::fh::fj::fo::ft::fk::tY::tw::sC::rB::rG::qg::qy::qw::ql::rO::qb::rA::rq::pV::pU::qz::nP::nE::fG::[]),[]⟩ w2):
  Code.wp Tryz.prog (Code.loop (z3a 2)) Q ⟨List.toArray (.pointer (some ⟨o,0,none⟩)::.int .i64 limit::c2::c3::.slice none 0 0::.bool false::v6::c7::c8::.int .i64 s::.bool true::.int .i64 1::gy::gV::ij::gw::il::gZ::fE::eH::eZ::fc::eW::eT::eL::eV::eX::eY::eO::eR::eQ::fh::fj::fo::ft::fk::fJ::fL::fI::fY::fQ::fO::gq::fV::gu::dT::gd::fM::gn::fP::fN::fZ::gN::gQ::fG::[]),[]⟩ w1:=by
 conv=>arg 2;arg 1;whnf
 have HC:=zC hC;have HI:=zC hI;have HX:=zC aT;have HY:=zC mD;clear hC hI aT mD;obtain⟨i0,AF,bL,aY,bf⟩:=info_parts zpi
 go_loopg [4,5,6,10,11] (2*(51-fs.length)+1) (λ gg v4 v5 v mo nn wr=>v4=.slice none 0 0/\v5=.bool false/\∃ (n:Nat) (more:Bool) (fg:List FG),nn=.int .i64 n/\mo=.bool more/\fg.length<=limit/\n<=fg.length+2/\(more=true->n<=fg.length+1)/\gg=2*(51-fg.length)+(if more then 1 else 0)/\wO w v fg wr/\(more=true->∀ r,zbx ps S (rs.map (·.R)) limit s n (fg.map (·.F)) r->zbx ps S (rs.map (·.R)) limit s 1 (fs.map (·.F)) r)/\(more=false->zbx ps S (rs.map (·.R)) limit s 1 (fs.map (·.F)) (some (fg.map (·.F)))))
 exact⟨rfl,rfl,1,true,fs,rfl,rfl,kn,by omega,λ _=>by omega,rfl,zA HI,λ _ r h=>h,λ h=>by cases h⟩
 case round=>
  clear HI;obtain⟨rfl,rfl,n,more,fg,rfl,rfl,uQ,hn,gW,bS,hI,IK,aW⟩:=hrel;obtain⟨a6,c6,rfl⟩:=zD hI.facts.row;have HI:=zC hI
  cases more with
  | false=>
   have HE:=zC (aW rfl);clear hI IK aW bS gW;go_wp2_with fail;apply zA HX
   ·exact zA HI
   ·exact uQ
   ·exact zA HE
  | true=>
   have Cb:=zC (IK rfl);have Rc:=gW rfl;have ib:=z1t wr o rs ps rv pv tv gs S w.heap.size fg a6 c6 (hI.ctx (zA HC) (by omega)) s n;have cQ:=zC ib;clear hI IK aW ib gW hn;simp only[if_true] at bS;go_wp2_with fail;refine (zA cQ).mono ?_;rintro e w2 ⟨v12,out,rfl,hR⟩;have hrel:=hR.rel;have oJ:=(zA HI).facts.below hR.below;have dm:=(zA HI).below.trans (hR.below.mono (zA HI).below.size);have Q8:=(zA HI).below.size
   have bQ:=hrel.ok (zA HI).ok (λ R hR a ha=>by
    obtain⟨r,hr,rfl⟩:=List.mem_map.1 hR
    exact (zA HC).atoms r hr a ha)
   have Nj:∀ x∈out,qZ w2 w.heap.size x:=λ x hx=>(hR.facts.each x hx).low Q8
   obtain⟨a12,gy,rfl⟩:=zD hR.facts.row;have kV:=hR.eJ
   cases out with
   | nil=>
    have HD:=zC (zA Cb _ (zbx.done hrel (by simpa using uQ)));have eC:=zC (show wO w (.slice a6 fg.length c6) fg w2 from ⟨dm,oJ,(zA HI).ok⟩);have PZ:=yau (zA HI).facts.row;have mx:¬ ((limit:Int)<fg.length):=(by omega);clear hR hrel oJ dm bQ Nj Cb cQ HI kV;have qt:=zC (z8z w2 a6 fg.length c6 PZ a12 gy);go_wp2_with (at_builtin;go_must (refine zc7 rfl _ _ _ rfl _ _ rfl rfl (zA qt) ?_));go_roundg (2*(51-fg.length));exact⟨rfl,rfl,n+1,false,fg,by go_num,rfl,uQ,by omega,(λ h=>by cases h),by simp,zA eC,(λ h=>by cases h),λ _=>zA HD⟩;omega
   | cons x0 out0=>
    generalize hO:x0::out0=out at *;have aJ:0<out.length:=(by rw[<-hO];simp);have bF:out.map (·.F)≠[]:=(by rw[<-hO];simp);obtain⟨g12,YM,Qi,-,-,-,-,-⟩:=zb0 hR.facts.row (k:=0) aJ;injection Qi with q1 q2 q3
    subst q1 q3;have dt:=zC (zrd hR.facts.row);have kT:=zC (z41 Nj);have hlen:(out.flatMap FG.cells).length=out.length*10:=hR.facts.row.1;have ry:=zC hlen
    have dM:=λ (w5:W8) (v':Value) (hg:w2.grownBy w5 (Value.slice a6 fg.length c6).ownBlock) (ay:w5.ownsRow w.heap.size 262 10 v' (fg.length+out.length) (fg.flatMap FG.cells++out.flatMap FG.cells))=>(show wO w v' (fg++out) w5 from ⟨zY dm (zK.aR hg) (dm.size) (λ b hm=>(oJ.row.lt b (by simpa using hm)).1),oJ.app Nj (zK.refl [] _) hg ay,λ f hf=>by
     rw[List.map_append] at hf;rcases List.mem_append.1 hf with hf | hf
     ·exact (zA HI).ok f hf
     ·exact bQ f hf⟩)
    have mY:=zC dM;have gP:=zC oJ.row;have tC:=zC hrel;have J3:=dm.size;have IV:=zC dm;have WW:=zC bF;clear hR hrel oJ dm bQ Nj cQ HI dM hlen hO bF
    by_cases hbig:limit<fg.length+out.length
    ·have Q6:(limit:Int)<(fg.length:Int)+out.length:=(by omega);have HT:=zC (zA Cb _ (zbx.fF (zA tC) (by simpa using hbig)));go_wp2_with (at_builtin;go_must (refine wpList_append_lies _ rfl _ _ _ rfl w.heap.size 262 i0 (.agg #[.string { data:=#[] },.slice none 0 0,.bool false,.int .i64 0,.int .i64 0,.string { data:=#[] },.int .i64 0,.int .i64 0,.int .i64 0,.slice none 0 0]) 10 128 Tryz.underlying250 AF bL aY bf rfl (by decide) (.slice a6 fg.length c6) fg.length _ rfl (zA gP) ⟨g12,0,none⟩ out.length gy (out.flatMap FG.cells) rfl (zA ry) (zA dt) (zA kT) aJ (by unfold maxLen;omega) (by omega) J3 _ rfl ?_;intro g cap w5 aq aU bW hlt5));have HM:=zC (zA mY w5 _ aU aq);clear aq aU mY gP;go_wp2_with fail;apply zA HY
     ·exact (zA HM).below
     ·exact zA HT
    ·have Q6:¬ ((limit:Int)<(fg.length:Int)+out.length):=(by omega);have HT:=zC (λ r (h:zbx ps S (rs.map (·.R)) limit s (n+1) ((fg++out).map (·.F)) r)=>zA Cb r (zbx.more (zA tC) (zA WW) (by simpa using hbig) (by rw[List.map_append] at h;exact h)));go_wp2_with (at_builtin;go_must (refine wpList_append_lies _ rfl _ _ _ rfl w.heap.size 262 i0 (.agg #[.string { data:=#[] },.slice none 0 0,.bool false,.int .i64 0,.int .i64 0,.string { data:=#[] },.int .i64 0,.int .i64 0,.int .i64 0,.slice none 0 0]) 10 128 Tryz.underlying250 AF bL aY bf rfl (by decide) (.slice a6 fg.length c6) fg.length _ rfl (zA gP) ⟨g12,0,none⟩ out.length gy (out.flatMap FG.cells) rfl (zA ry) (zA dt) (zA kT) aJ (by unfold maxLen;omega) (by omega) J3 _ rfl ?_;intro g cap w5 aq aU bW hlt5));have HM:=zC (zA mY w5 _ aU aq);clear aq aU mY gP;have Rt:(0:Int)<out.length:=(by omega);go_wp2_with fail;go_roundg (2*(51-(fg++out).length)+1);exact⟨rfl,rfl,n+1,true,fg++out,by go_num,rfl,by simp;omega,by simp;omega,(λ _=>by simp;omega),by simp,zA HM,(λ _=>zA HT),λ h=>by cases h⟩;simp;omega
end
section
open Go.RowKit
def lQ (S:Nat->Nat):Nat->Nat
 | 0=>0
 | n+1=>max (lQ S n) (S n)
theorem zqa {S:Nat->Nat}{m:Nat}:∀ (n:Nat),(∀ i,i<n->S i<=m)->lQ S n<=m
 | 0,_=>Nat.zero_le _
 | n+1,h=>Nat.max_le.2 ⟨zqa n (λ i hi=>h i (by omega)),h n (by omega)⟩
theorem ydz (w:W8)(o:Nat)(rs:List RR)(ps:P9)(rv pv tv:Value)(gs:Nat)(S:Nat->Nat)(hC:Ck w o rs ps rv pv tv gs S)(limit dh:Nat)(hlim:limit<=50)(AO:dh<=1000000)(w1:W8)(hI:wO w (.slice none 0 0) [] w1)
  {Q:Exit->Act->W8->Prop} {c2 c3 c8 gS lI gy gV ij gw il gZ fE eH eZ fc eW eT eL eV eX eY eO eR eQ fh fj fo ft fk fJ fL fI fY fQ fO gq fV gu dT gd fM gn fP fN fZ gN gQ fG:Value}
  (aT:∀ (DE:Value) (fg:List FG) (w2:W8) (u9 rz ri pX Cq u32 AG Ao AA tY tw sC rB rG qg qy qw ql rO qb rA rq pV pU qz nP nE:Value),wO w DE fg w2->fg.length<=limit->zkk ps S (rs.map (·.R)) limit dh 0 [] (some (fg.map (·.F)))->Q (.exit 2) ⟨List.toArray (.pointer (some ⟨o,0,none⟩)::.int .i64 limit::c2::c3::.slice none 0 0::.bool false::DE::.int .i64 dh::c8::u9::rz::ri::pX::gV::ij::gw::il::gZ::fE::eH::eZ::fc::eW::eT::eL::eV::eX::eY::eO::eR::eQ::Cq::u32::AG::Ao::AA::tY::tw::sC::rB::rG::qg::qy::qw::ql::rO::qb::rA::rq::pV::pU::qz::nP::nE::fG::[]),[]⟩ w2)
  (mD:∀ (DE:Value) (w2:W8) (u9 rz ri pX Cq u32 AG Ao AA tY tw sC rB rG qg qy qw ql rO qb rA rq pV pU qz nP nE:Value),Below w.heap.size w w2->zkk ps S (rs.map (·.R)) limit dh 0 [] none->Q .ret ⟨List.toArray (.pointer (some ⟨o,0,none⟩)::.int .i64 limit::c2::c3::.slice none 0 0::.bool false::DE::.int .i64 dh::c8::u9::rz::ri::pX::gV::ij::gw::il::gZ::fE::eH::eZ::fc::eW::eT::eL::eV::eX::eY::eO::eR::eQ::Cq::u32::AG::Ao::AA::tY::tw::sC::rB::rG::qg::qy::qw::ql::rO::qb::rA::rq::pV::pU::qz::nP::nE::fG::[]),[]⟩ w2):
  Code.wp Tryz.prog (Code.loop (z3a 1)) Q ⟨List.toArray (.pointer (some ⟨o,0,none⟩)::.int .i64 limit::c2::c3::.slice none 0 0::.bool false::.slice none 0 0::.int .i64 dh::c8::.int .i64 0::gS::lI::gy::gV::ij::gw::il::gZ::fE::eH::eZ::fc::eW::eT::eL::eV::eX::eY::eO::eR::eQ::fh::fj::fo::ft::fk::fJ::fL::fI::fY::fQ::fO::gq::fV::gu::dT::gd::fM::gn::fP::fN::fZ::gN::gQ::fG::[]),[]⟩ w1:=by
 conv=>arg 2;arg 1;whnf
 have HC:=zC hC;have HI:=zC hI;have HX:=zC aT;have HY:=zC mD;clear hC hI aT mD
 go_loopg [4,5,6,9] (dh+1) (λ gg v4 v5 v ss wr=>v4=.slice none 0 0/\v5=.bool false/\∃ (s:Nat) (fg:List FG),ss=.int .i64 s/\s<=dh+1/\gg=dh+1-s/\fg.length<=limit/\wO w v fg wr/\(∀ r,zkk ps S (rs.map (·.R)) limit dh s (fg.map (·.F)) r->zkk ps S (rs.map (·.R)) limit dh 0 [] r))
 exact⟨rfl,rfl,0,[],rfl,by omega,by omega,by simp,zA HI,λ r h=>h⟩
 case round=>
  clear HI;obtain⟨rfl,rfl,s,fg,rfl,hs,bS,uQ,hI,IK⟩:=hrel;obtain⟨a6,c6,rfl⟩:=zD hI.facts.row;have HI:=zC hI;have Cb:=zC IK;clear hI IK
  by_cases bN:s<=dh
  ·have Tx:(s:Int)<=dh:=(by omega);go_wp2_with fail;refine ydc w o rs ps rv pv tv gs S (zA HC) limit s hlim _ fg uQ wr (zA HI) ?_ ?_
   ·intro v2 S5 w2;intros;rename_i dI lg Co;obtain⟨a2,c2,rfl⟩:=zD dI.facts.row;have eC:=zC dI;have na:=zC (λ r (h:zkk ps S (rs.map (·.R)) limit dh (s+1) (S5.map (·.F)) r)=>zA Cb r (zkk.next bN Co h));clear dI Co HI Cb;go_wp2_with fail;go_roundg (dh+1-(s+1));exact⟨rfl,rfl,s+1,S5,by go_num,by omega,rfl,lg,zA eC,zA na⟩;omega
   ·intro v2 w2;intros;rename_i lu Co;have ir:=zC lu;have na:=zC (zA Cb _ (zkk.ia bN Co));clear lu Co HI Cb;apply zA HY
    ·exact zA ir
    ·exact zA na
  ·have Tx:¬ ((s:Int)<=dh):=(by omega);have HE:=zC (zA Cb _ (zkk.ends (by omega)));go_wp2_with fail;apply zA HX
   ·exact zA HI
   ·exact uQ
   ·exact zA HE
theorem yc7 (w:W8)(o:Nat)(rs:List RR)(ps:P9)(rv pv tv:Value)(gs:Nat)(S:Nat->Nat)(hC:Ck w o rs ps rv pv tv gs S)(hS:∀ i,i<ps.length->S i<=1000000)
  {Q:Exit->Act->W8->Prop} {c1 c2 c3 c4 c5 c6 c9 gS lI gy gV ij gw il gZ fE eH eZ fc eW eT eL eV eX eY eO eR eQ fh fj fo ft fk fJ fL fI fY fQ fO gq fV gu dT gd fM gn fP fN fZ gN gQ fG:Value}
  (aT:∀ (w2:W8) (u8 CN zr Ap u16 A0 Cv Ji Gp GX Fi G6 GY Gw FD Gq G4 FN FH:Value),Below w.heap.size w w2->Q (.exit 0) ⟨List.toArray (.pointer (some ⟨o,0,none⟩)::c1::c2::c3::c4::c5::c6::.int .i64 (lQ S ps.length)::u8::c9::gS::lI::gy::CN::zr::Ap::u16::A0::Cv::Ji::Gp::GX::Fi::G6::GY::Gw::FD::Gq::G4::FN::FH::fh::fj::fo::ft::fk::fJ::fL::fI::fY::fQ::fO::gq::fV::gu::dT::gd::fM::gn::fP::fN::fZ::gN::gQ::fG::[]),[]⟩ w2):
  Code.wp Tryz.prog (Code.loop (z3a 0)) Q ⟨List.toArray (.pointer (some ⟨o,0,none⟩)::c1::c2::c3::c4::c5::c6::.int .i64 0::.int .i64 0::c9::gS::lI::gy::gV::ij::gw::il::gZ::fE::eH::eZ::fc::eW::eT::eL::eV::eX::eY::eO::eR::eQ::fh::fj::fo::ft::fk::fJ::fL::fI::fY::fQ::fO::gq::fV::gu::dT::gd::fM::gn::fP::fN::fZ::gN::gQ::fG::[]),[]⟩ w:=by
 conv=>arg 2;arg 1;whnf
 have bt:=yU hC.prog.fD;unfold maxLen at bt;have HC:=zC hC;have HX:=zC aT;have HS:=zC hS;clear hC aT hS
 go_loopg [7,8] ps.length (λ gg mm ii wr=>∃ (i:Nat),ii=.int .i64 i/\i<=ps.length/\gg=ps.length-i/\mm=.int .i64 (lQ S i)/\Below w.heap.size w wr)
 exact⟨0,rfl,by omega,by omega,rfl,Below.refl _ _⟩
 case round=>
  obtain⟨i,rfl,hi,bS,rfl,hB⟩:=hrel;have cY:=(zA HC).prog.kept ((zK.refl [] _).ak hB) (by simp);have gD:=(zA HC).og.kept ((zK.refl [] _).ak hB);have c3:=cY.c3;have sn:=cY.lt;have aZ:=gD.sz;have HB:=zC hB
  by_cases ku:i<ps.length
  ·have Cc:(i:Int)<ps.length:=(by omega);have hci:=gD.cell i ku;have dJ:=zqa (S:=S) (m:=1000000) i (λ j hj=>zA HS j (by omega));have dC:=zA HS i ku;clear cY gD hB;go_wp2_with fail;go_roundg (ps.length-(i+1));exact⟨i+1,by go_num,by omega,rfl,by rw[lQ];go_num,zA HB⟩;omega
  ·have Cc:¬ ((i:Int)<ps.length):=(by omega);have XJ:i=ps.length:=(by omega);subst XJ;clear cY gD hB;go_wp2_with fail;apply zA HX;exact zA HB
inductive zr1 (w:W8)(ps:P9)(S:Nat->Nat)(rs:List zS)(limit:Nat)(w':W8):Value->Value->Prop
 | yes {v:Value} {fs:List FG}:wO w v fs w'->fs.length<=limit->zkk ps S rs limit (lQ S ps.length) 0 [] (some (fs.map (·.F)))->zr1 w ps S rs limit w' v (.bool true)
 | no:Below w.heap.size w w'->zkk ps S rs limit (lQ S ps.length) 0 [] none->zr1 w ps S rs limit w' (.slice none 0 0) (.bool false)
def ycb (w:W8)(ps:P9)(S:Nat->Nat)(rs:List zS)(limit:Nat)(e:Ending)(w':W8):Prop:=
 ∃ v b,e=.returned (.tuple #[v,b])/\zr1 w ps S rs limit w' v b
theorem zsg (w:W8)(o:Nat)(rs:List RR)(ps:P9)(rv pv tv:Value)(gs:Nat)(S:Nat->Nat)(hC:Ck w o rs ps rv pv tv gs S)(hS:∀ i,i<ps.length->S i<=1000000)(limit:Nat)(hlim:limit<=50):
  Calls Tryz.prog 138 #[.pointer (some ⟨o,0,none⟩),.int .i64 limit] w (ycb w ps S (rs.map (·.R)) limit):=by
 have HC:=zC hC;have HS:=zC hS;clear hC hS;go_enter Tryz.func138,Tryz.ntmps138;go_wp2_with fail;refine yc7 w o rs ps rv pv tv gs S (zA HC) (zA HS) ?_;intro w1;intros;rename_i gA;have H0:=zC (show wO w (.slice none 0 0) [] w1 from ⟨gA,⟨World.ownsRow_nil _ _ _ _,by simp⟩,by simp⟩);clear gA;have bh:=zqa (S:=S) (m:=1000000) ps.length (zA HS);generalize AO:lQ S ps.length=dh at *;have HM:=zC AO;clear AO;go_wp2_with fail;refine ydz w o rs ps rv pv tv gs S (zA HC) limit dh hlim bh w1 (zA H0) ?_ ?_
 ·intro v6 fs w2;intros;rename_i hI hl hT;obtain⟨a6,c6,rfl⟩:=zD hI.facts.row;have HF:=zC (show zr1 w ps S (rs.map (·.R)) limit w2 (.slice a6 fs.length c6) (.bool true) from .yes hI hl (by rw[zA HM];exact hT));clear hI hl hT H0;go_wp2_with fail
  go_ret2
  exact⟨_,_,rfl,zA HF⟩
 ·intro v6 w2;intros;rename_i hB hT;have HF:=zC (show zr1 w ps S (rs.map (·.R)) limit w2 (.slice none 0 0) (.bool false) from .no hB (by rw[zA HM];exact hT));clear hB hT H0
  go_ret2
  exact⟨_,_,rfl,zA HF⟩
end
end Go.Proofs.YtldkpahaocjdpaaGreat
