/-
  Plain: matching. What the reference's environments and texts are to the program's bindings and things.
-/
import Derived.Test.YtldkpahaocjdpaaGreatE35
import Derived.Deep.Upon
set_option maxHeartbeats 16000000
set_option maxRecDepth 1000000
namespace Go.Proofs.YtldkpahaocjdpaaGreat
section
def pa (A:zL):jZ:=⟨A.pred,A.ae.map ed⟩
def bN (A:zL):Th:=(A.pred,A.ae.map (·.text))
theorem zi3 (n:B8):∀ e:Env,zj3 e n=oj e n
 | []=>rfl
 | x::r=>by
  have:=zi3 n r;unfold oj at this ⊢;rw[zj3,pAt]
  split
  ·rfl
  ·exact this
theorem zt4 (e:Env)(t:xD):oh e t=bP e (ed t):=by
 unfold oh bP ed;simp only
 split
 ·exact zi3 _ _
 ·rfl
theorem IP (e:Env)(A:zL):bN (fa e A)=xV e (pa A):=by
 unfold bN fa xV pa;simp only[List.map_map];refine Prod.ext rfl ?_;refine List.map_congr_left λ t _=>?_
 exact zt4 e t
theorem zos:∀ (ts us:List (Bool × B8)) (i:Nat),ts.map (·.2)=us.map (·.2)->xJ ts i=xJ us i
 | [],[],_,_=>rfl
 | [],_::_,_,h=>by cases h
 | _::_,[],_,h=>by cases h
 | t::ts,u::us,i,h=>by
  rw[List.map_cons,List.map_cons] at h;injection h with h1 h2
  rw[xJ,xJ,h1,zos ts us (i+1) h2]
theorem z1a {pd:B8}{ts us:List (Bool × B8)}(h:ts.map (·.2)=us.map (·.2)):zau pd ts=zau pd us:=by
 have hl:ts.length=us.length:=by have:=congrArg List.length h;simpa using this
 unfold zau;rw[zos ts us 0 h,hl]
theorem DO (A:zL):xP A=xK (bN A):=by
 unfold xP xK jH bN xB;rw[z1a (us:=List.map (λ x=>(false,x)) (List.map (·.text) A.ae)) (by simp[List.map_map,ed,Function.comp_def])]
def z9j (c:UInt8):Prop:=c=40\/c=41\/c=44
theorem zjh:∀ {a b x y:List UInt8},(∀ c∈a,¬ z9j c)->(∀ c∈b,¬ z9j c)->(∀ c,x.head?=some c->z9j c)->(∀ c,y.head?=some c->z9j c)->a++x=b++y->a=b/\x=y
 | [],[],_,_,_,_,_,_,h=>⟨rfl,h⟩
 | [],c::b,x,y,_,hb,hx,_,h=>by
  rw[List.nil_append,List.cons_append] at h;exact absurd (hx c (by rw[h];rfl)) (hb c List.mem_cons_self)
 | c::a,[],x,y,ha,_,_,hy,h=>by
  rw[List.nil_append,List.cons_append] at h;exact absurd (hy c (by rw[<-h];rfl)) (ha c List.mem_cons_self)
 | c::a,d::b,x,y,ha,hb,hx,hy,h=>by
  rw[List.cons_append,List.cons_append] at h;injection h with h1 h2
  obtain⟨e1,e2⟩:=zjh (λ c hc=>ha c (List.mem_cons_of_mem _ hc)) (λ c hc=>hb c (List.mem_cons_of_mem _ hc)) hx hy h2;exact⟨by rw[h1,e1],e2⟩
theorem lO.sep {x:B8}(h:lO x):∀ c∈x.data.toList,¬ z9j c:=λ c hc=>by
 have:=h.no c hc;unfold z9j;simp[this]
theorem zv1 {x y:B8}(h:x.data.toList=y.data.toList):x=y:=by
 cases x;cases y
 simp only at h;rw[Array.toList_inj.1 h]
theorem zm1 (ts:List (Bool × B8))(i:Nat):∀ c,(xJ ts i++[41]).head?=some c->z9j c:=by
 intro c h
 cases ts with
 | nil=>simp[xJ] at h;exact .inr (.inl h.symm)
 | cons t r=>
  rw[xJ] at h;simp only[List.cons_append,List.head?_cons,Option.some.injEq] at h;rw[<-h]
  split
  ·exact .inl rfl
  ·exact .inr (.inr rfl)
theorem zs6:∀ (ts us:List (Bool × B8)) (i:Nat),(∀ t∈ts,lO t.2)->(∀ t∈us,lO t.2)->xJ ts i++[41]=xJ us i++[41]->ts.map (·.2)=us.map (·.2)
 | [],[],_,_,_,_=>rfl
 | [],u::us,i,_,_,h=>by
  rw[xJ,xJ,List.cons_append] at h;simp only[List.nil_append] at h;injection h with h1 _
  split at h1 <;> exact absurd h1 (by decide)
 | t::ts,[],i,_,_,h=>by
  rw[xJ,xJ,List.cons_append] at h;simp only[List.nil_append] at h;injection h with h1 _
  split at h1 <;> exact absurd h1 (by decide)
 | t::ts,u::us,i,ht,hu,h=>by
  rw[xJ,xJ,List.cons_append,List.cons_append] at h;injection h with _ h2
  rw[List.append_assoc,List.append_assoc] at h2;obtain⟨e1,e2⟩:=zjh (ht t List.mem_cons_self).sep (hu u List.mem_cons_self).sep (zm1 _ _) (zm1 _ _) h2;rw[List.map_cons,List.map_cons,zv1 e1,zs6 ts us (i+1) (λ x hx=>ht x (List.mem_cons_of_mem _ hx)) (λ x hx=>hu x (List.mem_cons_of_mem _ hx)) e2]
structure D3 (t:Th):Prop where
 pd:lO t.1
 ts:∀ x∈t.2,lO x
theorem zm2 (t:Th):(xB t).map (·.2)=t.2:=by unfold xB;simp[List.map_map,Function.comp_def]
theorem D3.ae {t:Th}(h:D3 t):∀ x∈xB t,lO x.2:=by
 intro x hx;obtain⟨y,hy,rfl⟩:=List.mem_map.1 hx;exact h.ts y hy
theorem zxa (ts:List (Bool × B8)):∀ c,(xJ ts 0++if ts.length=0 then [] else [41]).head?=some c->z9j c:=by
 intro c h
 cases ts with
 | nil=>simp[xJ] at h
 | cons t r=>
  rw[if_neg (by simp)] at h;exact zm1 _ _ c h
theorem zea {t u:Th}(ht:D3 t)(hu:D3 u)(h:xK t=xK u):t=u:=by
 have h':zau t.1 (xB t)=zau u.1 (xB u):=by
  have:=congrArg (λ x:B8=>x.data.toList) h;simpa[xK] using this
 unfold zau at h';obtain⟨e1,e2⟩:=zjh ht.pd.sep hu.pd.sep (zxa _) (zxa _) h';have e3:(xB t).map (·.2)=(xB u).map (·.2):=by
  cases hT:xB t with
  | nil=>
   cases hU:xB u with
   | nil=>rfl
   | cons x r=>rw[hT,hU] at e2;simp[xJ] at e2
  | cons y q=>
   cases hU:xB u with
   | nil=>rw[hT,hU] at e2;simp[xJ] at e2
   | cons x r=>
    rw[hT,hU,if_neg (by simp),if_neg (by simp)] at e2;have h1:=ht.ae;have h2:=hu.ae;rw[hT] at h1;rw[hU] at h2;exact zs6 _ _ 0 h1 h2 e2
 rw[zm2,zm2] at e3;exact Prod.ext (zv1 e1) e3
def oo (e:yR):Prop:=∀ p∈e,lO p.2
variable {v:B8} {e:yR}
theorem zwv (h:oo e){x:B8}(hx:pAt e v=some x):lO x:=by
 induction e with
 | nil=>cases hx
 | cons p r ih=>
  rw[pAt] at hx
  split at hx
  ·cases hx;exact h p List.mem_cons_self
  ·exact ih (λ q hq=>h q (List.mem_cons_of_mem _ hq)) hx
theorem oo.snoc (h:oo e){x:B8}(hx:lO x):oo (e++[(v,x)]):=by
 intro p hp;rcases List.mem_append.1 hp with hp | hp
 ·exact h p hp
 ·rw[List.mem_singleton.1 hp];exact hx
theorem lO.list {x:B8}(h:lO x):(x.toList==[])=false:=by
 have:=h.ne;have e:x.toList≠[]:=by
  rw[ByteArray.toList_eq];intro e;have:=congrArg List.length e;rw[jI,List.length_nil] at this;omega
 simp[e]
theorem zga:∀ (ts us:List xD) (e:Env),ts.length=us.length->oo e->(∀ t∈ts,lO t.text)->(∀ u∈us,lO u.text)->jB e ts us=zj7 e (ts.map ed) (us.map (·.text))
 | [],[],e,_,_,_,_=>by rw[jB];rfl;simp
 | [],_::_,_,h,_,_,_=>by cases h
 | _::_,[],_,h,_,_,_=>by cases h
 | t::ts,u::us,e,h,he,ht,hu=>by
  have hl:ts.length=us.length:=by simpa using h
  have Dm:∀ x∈ts,lO x.text:=λ x hx=>ht x (List.mem_cons_of_mem _ hx)
  have mj:∀ x∈us,lO x.text:=λ x hx=>hu x (List.mem_cons_of_mem _ hx)
  have YO:=hu u List.mem_cons_self;rw[jB,List.map_cons,List.map_cons,zj7];simp only[List.headD_cons,List.tail_cons];unfold pmT
  cases hv:t.isVar with
  | true=>
   have e1:oh e t=oj e t.text:=(by unfold oh;rw[hv,if_pos rfl];exact zi3 _ _);simp only[ed,hv,if_true];rw[e1];unfold pmB oj
   cases hp:pAt e t.text with
   | none=>
    have:((Option.none:Option B8).getD { data:=#[] }).toList==[]:=by rw[ByteArray.toList_eq];rfl
    rw[if_pos this];exact zga ts us _ hl (he.snoc YO) Dm mj
   | some x=>
    have hx:=(zwv he hp).list;simp only[Option.getD_some];rw[if_neg (by rw[hx];decide)]
    by_cases c:(x.toList==u.text.toList)=true
    ·rw[if_pos c,if_pos c];exact zga ts us _ hl he Dm mj
    ·rw[if_neg c,if_neg c]
  | false=>
   have e1:oh e t=t.text:=(by unfold oh;rw[hv,if_neg (by decide)]);simp only[ed,hv];rw[e1,if_neg (by rw[(ht t List.mem_cons_self).list];decide)]
   by_cases c:(t.text.toList==u.text.toList)=true
   ·rw[if_pos c,if_neg (by decide),if_pos c];exact zga ts us _ hl he Dm mj
   ·rw[if_neg c,if_neg (by decide),if_neg c]
structure zis (ps:P9)(a:jZ):Prop where
 w:zkq a.p a.ts
 num:yX ps a.p=some a.ts.length
structure iD (ps:P9)(t:Th):Prop where
 w:D3 t
 num:yX ps t.1=some t.2.length
 eJ:t.2.length<=4
theorem zry {e:Env}{a th:zL}(he:oo e)(ha:zkq (pa a).p (pa a).ts)(ht:D3 (bN th))(hn:a.pred=th.pred->a.ae.length=th.ae.length):qA e a th=xG e (pa a) (bN th):=by
 unfold qA xG;have hb:(a.pred.toList==th.pred.toList)=true↔a.pred=th.pred:=xO
 by_cases c:(a.pred.toList==th.pred.toList)=true
 ·have hl:=hn (hb.1 c);rw[if_pos (by rw[c,hl];simp),show (pa a).p=a.pred from rfl,show Th.p (bN th)=th.pred from rfl,if_pos c];refine zga _ _ _ hl he (λ t h=>?_) (λ t h=>ht.ts _ (List.mem_map.2 ⟨t,h,rfl⟩));exact ha.ts (ed t) (List.mem_map.2 ⟨t,h,rfl⟩)
 ·rw[if_neg (by simp only[Bool.and_eq_true];exact λ h=>c h.1),show (pa a).p=a.pred from rfl,show Th.p (bN th)=th.pred from rfl,if_neg c]
end
section
theorem IJ (v n u:B8):∀ e:yR,pAt (e++[(v,n)]) u=match pAt e u with | some x=>some x | none=>if v.toList==u.toList then some n else none
 | []=>by rw[List.nil_append,pAt,pAt];simp[pAt]
 | x::r=>by
  rw[List.cons_append,pAt,pAt]
  by_cases c:(x.1.toList==u.toList)=true
  ·rw[if_pos c,if_pos c]
  ·rw[if_neg c,if_neg c];exact IJ v n u r
structure EY (e e':yR)(k:Nat):Prop where
 w:oo e'
 len:e'.length<=e.length+k
 ext:∀ v x,pAt e v=some x->pAt e' v=some x
variable {e:yR}
theorem EY.refl (h:oo e):EY e e 0:=⟨h,by omega,λ _ _ h=>h⟩
variable {e':yR}
theorem yb3 {t:zdy}{n:B8}(hn:lO n)(he:oo e)(h:pmT e t n=some e'):EY e e' 1/\(t.1=true->∃ x,pAt e' t.2=some x):=by
 unfold pmT at h
 by_cases hv:t.1=true
 ·rw[if_pos hv] at h;unfold pmB at h
  cases hp:pAt e t.2 with
  | none=>
   rw[hp] at h
   cases h
   refine⟨⟨he.snoc hn,by simp,λ v x hx=>by rw[IJ,hx]⟩,λ _=>⟨n,?_⟩⟩;rw[IJ,hp];simp
  | some x=>
   rw[hp] at h;simp only at h
   split at h
   ·cases h;exact⟨⟨he,by omega,λ _ _ h=>h⟩,λ _=>⟨x,hp⟩⟩
   ·cases h
 ·rw[if_neg hv] at h
  split at h
  ·cases h;exact⟨⟨he,by omega,λ _ _ h=>h⟩,λ c=>absurd c hv⟩
  ·cases h
theorem zwz:∀ (ts:List zdy) (ns:List B8) (e e':yR),ts.length=ns.length->(∀ x∈ns,lO x)->oo e->zj7 e ts ns=some e'->EY e e' ts.length/\∀ t∈ts,t.1=true->∃ x,pAt e' t.2=some x
 | [],_,e,e',_,_,he,h=>by
  rw[zj7] at h
  cases h
  exact⟨EY.refl he,by simp⟩
 | t::ts,[],_,_,hl,_,_,_=>by cases hl
 | t::ts,n::ns,e,e',hl,hn,he,h=>by
  rw[zj7] at h;simp only[List.headD_cons,List.tail_cons] at h
  cases h1:pmT e t n with
  | none=>rw[h1] at h;cases h
  | some e1=>
   rw[h1] at h;simp only at h;obtain⟨g1,b1⟩:=yb3 (hn n List.mem_cons_self) he h1;obtain⟨g2,b2⟩:=zwz ts ns e1 e' (by simpa using hl) (λ x hx=>hn x (List.mem_cons_of_mem _ hx)) g1.w h;refine⟨⟨g2.w,by have:=g1.len;have:=g2.len;simp;omega,λ v x hx=>g2.ext v x (g1.ext v x hx)⟩,λ u hu hv=>?_⟩;rcases List.mem_cons.1 hu with rfl | hu
   ·obtain⟨x,hx⟩:=b1 hv;exact⟨x,g2.ext _ _ hx⟩
   ·exact b2 u hu hv
variable {ps:P9}
theorem zge {a:jZ}{t:Th}(ha:zis ps a)(ht:iD ps t)(he:oo e)(h:xG e a t=some e'):EY e e' 4/\∀ t∈a.ts,t.1=true->∃ x,pAt e' t.2=some x:=by
 unfold xG at h
 split at h
 ·rename_i c;have hp:a.p=t.1:=xO.1 c;have hl:a.ts.length=t.2.length:=by
   have h1:=ha.num;rw[hp,ht.num] at h1;exact (Option.some.inj h1).symm
  obtain⟨g,b⟩:=zwz a.ts t.2 e e' hl ht.w.ts he h;exact⟨⟨g.w,by have:=g.len;have:=ha.w.eJ;omega,g.ext⟩,b⟩
 ·cases h
theorem zfm {ps:P9}{K:List (Th × Nat)}(hK:∀ p∈K,iD ps p.1):∀ (pos:List jZ) (e0 e:yR),(∀ a∈pos,zis ps a)->oo e0->e∈yD K pos e0->EY e0 e (4*pos.length)/\∀ a∈pos,∀ t∈a.ts,t.1=true->∃ x,pAt e t.2=some x
 | [],e0,e,_,he,h=>by
  rw[yD] at h;rw[List.mem_singleton.1 h];exact⟨EY.refl he,by simp⟩
 | a::r,e0,e,ha,he,h=>by
  rw[yD] at h;obtain⟨p,hp,h⟩:=List.mem_flatMap.1 h
  cases hm:xG e0 a p.1 with
  | none=>rw[hm] at h;simp at h
  | some e1=>
   rw[hm] at h;simp only at h;obtain⟨g1,b1⟩:=zge (ha a List.mem_cons_self) (hK p hp) he hm;obtain⟨g2,b2⟩:=zfm hK r e1 e (λ x hx=>ha x (List.mem_cons_of_mem _ hx)) g1.w h;refine⟨⟨g2.w,by have:=g1.len;have:=g2.len;simp;omega,λ v x hx=>g2.ext v x (g1.ext v x hx)⟩,λ x hx t ht hv=>?_⟩;rcases List.mem_cons.1 hx with rfl | hx
   ·obtain⟨y,hy⟩:=b1 t ht hv;exact⟨y,g2.ext _ _ hy⟩
   ·exact b2 x hx t ht hv
theorem zh6 {A:jZ}(hA:zis ps A)(he:oo e)(hb:∀ t∈A.ts,t.1=true->∃ x,pAt e t.2=some x):iD ps (xV e A):=by
 refine⟨⟨hA.w.pd,λ x hx=>?_⟩,?_,?_⟩
 ·obtain⟨t,ht,rfl⟩:=List.mem_map.1 hx;unfold bP
  split
  ·rename_i hv;obtain⟨x,h1⟩:=hb t ht hv;unfold oj;rw[h1];exact zwv he h1
  ·exact hA.w.ts t ht
 ·show yX ps A.p=some (A.ts.map (bP e)).length
  rw[List.length_map];exact hA.num
 ·show (A.ts.map (bP e)).length<=4
  rw[List.length_map];exact hA.w.eJ
theorem iD.ok {t:Th}(h:iD ps t):zdu t:=
 ⟨by have:=h.w.pd.le;show t.1.size<=_;omega,h.eJ,λ x hx=>by have:=(h.w.ts x hx).le;omega,λ x hx=>(h.w.ts x hx).ne⟩
theorem ybj {ls:List (vK × Value)}{a:jZ}:a∈yP ls↔∃ x∈ls,x.1.neg=false/\a=⟨x.1.pd,x.1.ts⟩:=by
 unfold yP vV;simp only[List.map_map,List.mem_map,List.mem_filter,Function.comp_def,zl2,vA]
 constructor
 ·rintro⟨x,⟨h1,h2⟩,rfl⟩;exact⟨x,h1,by simpa using h2,rfl⟩
 ·rintro⟨x,h1,h2,rfl⟩;exact⟨x,⟨h1,by simp[h2]⟩,rfl⟩
theorem ybi {ls:List (vK × Value)}{a:jZ}:a∈zcv ls↔∃ x∈ls,x.1.neg=true/\a=⟨x.1.pd,x.1.ts⟩:=by
 unfold zcv vV;simp only[List.map_map,List.mem_map,List.mem_filter,Function.comp_def,zl2,vA]
 constructor
 ·rintro⟨x,⟨h1,h2⟩,rfl⟩;exact⟨x,h1,by simpa using h2,rfl⟩
 ·rintro⟨x,h1,h2,rfl⟩;exact⟨x,⟨h1,by simp[h2]⟩,rfl⟩
structure nP (ps:P9)(r:PR):Prop where
 l3:r.bs.length<=3
 hd:zis ps (gw r)
 ls:∀ x∈r.bs,zis ps ⟨x.1.pd,x.1.ts⟩
 Bf:∀ t∈(gw r).ts,t.1=true->∃ a∈yP r.bs,t∈a.ts
 EN:∀ x∈zcv r.bs,∀ t∈x.ts,t.1=true->∃ a∈yP r.bs,t∈a.ts
variable {r:PR}
theorem nP.pos (h:nP ps r):∀ a∈yP r.bs,zis ps a:=λ a ha=>by
 obtain⟨x,hx,_,rfl⟩:=ybj.1 ha;exact h.ls x hx
theorem nP.neg (h:nP ps r):∀ a∈zcv r.bs,zis ps a:=λ a ha=>by
 obtain⟨x,hx,_,rfl⟩:=ybi.1 ha;exact h.ls x hx
theorem z4i (ls:List (vK × Value)):(yP ls).length<=ls.length:=by
 unfold yP vV;rw[List.length_map,List.length_map];exact List.length_filter_le _ _
theorem NU:oo []:=λ p hp=>by cases hp
structure yeq (ps:P9)(r:PR)(e:yR):Prop where
 w:oo e
 len:e.length<=12
 hd:iD ps (xV e (gw r))
 neg:∀ x∈zcv r.bs,iD ps (xV e x)
theorem nP.Hf (h:nP ps r){K:List (Th × Nat)}(hK:∀ p∈K,iD ps p.1)(he:e∈yD K (yP r.bs) []):yeq ps r e:=by
 obtain⟨g,b⟩:=zfm hK (yP r.bs) [] e h.pos NU he;refine⟨g.w,?_,zh6 h.hd g.w λ t ht hv=>?_,λ x hx=>zh6 (h.neg x hx) g.w λ t ht hv=>?_⟩
 ·have h1:=g.len;have h2:=z4i r.bs;have h3:=h.l3;rw[List.length_nil] at h1;omega
 ·obtain⟨a,ha,Gz⟩:=h.Bf t ht hv;exact b a ha t Gz hv
 ·obtain⟨a,ha,Gz⟩:=h.EN x hx t ht hv;exact b a ha t Gz hv
theorem z1s {rs:List PR}(h:∀ r∈rs,nP ps r):DP rs (iD ps):=λ _ hK r hr=>
 have g:=h r hr
 ⟨⟨g.l3,λ x hx=>(g.ls x hx).w.eJ,g.hd.w.eJ,λ _ he x hx=>((g.Hf hK he).neg x hx).ok,λ _ he=>(g.Hf hK he).hd.ok,λ _ he=>(g.Hf hK he).len⟩,λ _ he=>(g.Hf hK he).hd⟩
theorem ydy {t:Th}(h:iD ps t):(zau t.1 (xB t)).length<=1000000000:=by
 have h1:=zew (xB t) 0 (λ x hx=>by have:=(h.w.ae x hx).le;omega);have h2:(xB t).length=t.2.length:=by unfold xB;simp
 have h3:=h.eJ;have h4:=h.w.pd.le;have h5:=jI t.1;unfold zau;rw[List.length_append,List.length_append];have h6:(if (xB t).length=0 then ([]:List UInt8) else [41]).length<=1:=by split <;> simp
 have h7:(xB t).length*1001<=4*1001:=Nat.mul_le_mul_right _ (by omega);omega
end
section
structure gu (ps:P9)(K:List (Th × Nat))(l:List zP):Prop where
 mem:∀ t n,(t,n)∈K↔∃ f∈l,bN f.aj=t/\f.h=n
 NC:(K.map (·.1)).Nodup
 EM:(l.map λ f=>bN f.aj).Nodup
 dM:∀ f∈l,iD ps (bN f.aj)
 text:∀ f∈l,f.text=xK (bN f.aj)
theorem Vx (ps:P9):gu ps [] []:=⟨by simp,by simp,by simp,by simp,by simp⟩
variable {l:List zP} {K:List (Th × Nat)} {ps:P9}
theorem gu.ti (h:gu ps K l):∀ p∈K,iD ps p.1:=λ p hp=>by
 obtain⟨f,hf,e,_⟩:=(h.mem p.1 p.2).1 hp;rw[<-e];exact h.dM f hf
theorem gu.key (h:gu ps K l)(t:Th):t∈K.map (·.1)↔t∈l.map λ f=>bN f.aj:=by
 rw[List.mem_map,List.mem_map]
 constructor
 ·rintro⟨p,hp,rfl⟩;obtain⟨f,hf,e,_⟩:=(h.mem p.1 p.2).1 hp;exact⟨f,hf,e⟩
 ·rintro⟨f,hf,rfl⟩;exact⟨(bN f.aj,f.h),(h.mem _ _).2 ⟨f,hf,rfl,rfl⟩,rfl⟩
theorem gu.perm (h:gu ps K l):(K.map (·.1)).Perm (l.map λ f=>bN f.aj):=(List.perm_ext_iff_of_nodup h.NC h.EM).2 h.key
theorem gu.len (h:gu ps K l):K.length=l.length:=by
 have:=h.perm.length_eq;simpa using this
theorem gu.look (h:gu ps K l)(t:Th):(yS K t).isSome=true↔∃ f∈l,bN f.aj=t:=by
 constructor
 ·intro hs;obtain⟨n,hn⟩:=Option.isSome_iff_exists.1 hs;obtain⟨f,hf,e,_⟩:=(h.mem t n).1 (jV hn);exact⟨f,hf,e⟩
 ·rintro⟨f,hf,rfl⟩;rw[za5 h.NC ((h.mem _ _).2 ⟨f,hf,rfl,rfl⟩)];rfl
theorem zrh (t:B8):∀ (l:List zP) (k:Nat),(za1 t l k<0↔∀ f∈l,f.text≠t)
 | [],k=>by simp[za1]
 | x::r,k=>by
  rw[za1]
  by_cases c:(x.text.toList==t.toList)=true
  ·rw[if_pos c];have:x.text=t:=xO.1 c
   constructor
   ·intro h;omega
   ·intro h;exact absurd this (h x List.mem_cons_self)
  ·rw[if_neg c,zrh t r (k+1)];have hx:x.text≠t:=λ e=>c (xO.2 e)
   constructor
   ·intro h f hf;rcases List.mem_cons.1 hf with rfl | hf
    ·exact hx
    ·exact h f hf
   ·exact λ h f hf=>h f (List.mem_cons_of_mem _ hf)
theorem zlw (l:List zP)(t:B8):jE l t<0↔∀ f∈l,f.text≠t:=zrh t l 0
theorem gu.find (h:gu ps K l){t:Th}(ht:iD ps t):jE l (xK t)<0↔(yS K t).isSome=false:=by
 rw[zlw,<-Bool.not_eq_true,h.look]
 constructor
 ·rintro h1 ⟨f,hf,e⟩;exact h1 f hf (by rw[h.text f hf,e])
 ·intro h1 f hf e;refine h1 ⟨f,hf,zea (h.dM f hf).w ht.w ?_⟩;rw[<-h.text f hf,e]
def zqn (b:List zL):List jZ:=(b.filter λ A=>!A.no).map pa
def ybm (b:List zL):List jZ:=(b.filter λ A=>A.no).map pa
theorem zkp {a:zL}{x:Way}{e:Env}:∀ (l:List zP) (i:Nat),(∃ y∈zht a x l i,y.1=e)↔∃ f∈l,qA x.1 a f.aj=some e
 | [],_=>by simp[zht]
 | f::r,i=>by
  have ih:=zkp (a:=a) (x:=x) (e:=e) r (i+1);rw[zht]
  constructor
  ·rintro⟨y,hy,rfl⟩;rcases List.mem_append.1 hy with hy | hy
   ·cases hm:qA x.1 a f.aj with
    | none=>rw[hm] at hy;simp at hy
    | some e'=>
     rw[hm] at hy;rw[List.mem_singleton.1 hy];exact⟨f,List.mem_cons_self,hm⟩
   ·obtain⟨g,hg,e⟩:=ih.1 ⟨y,hy,rfl⟩;exact⟨g,List.mem_cons_of_mem _ hg,e⟩
  ·rintro⟨g,hg,hm⟩;rcases List.mem_cons.1 hg with rfl | hg
   ·refine⟨(e,x.2++[i]),List.mem_append.2 (.inl ?_),rfl⟩;rw[hm];exact List.mem_singleton.2 rfl
   ·obtain⟨y,hy,e⟩:=ih.2 ⟨g,hg,hm⟩;exact⟨y,List.mem_append.2 (.inr hy),e⟩
theorem zqg {ps:P9}{K:List (Th × Nat)}{l:List zP}(hS:gu ps K l):∀ (b:List zL) (now:List Way) (e:yR),(∀ a∈b,zis ps (pa a))->(∀ x∈now,oo x.1)->((∃ y∈ziq l b now,y.1=e)↔∃ x∈now,e∈yD K (zqn b) x.1)
 | [],now,e,_,_=>by
  rw[ziq]
  constructor
  ·rintro⟨y,hy,rfl⟩;exact⟨y,hy,List.mem_singleton.2 rfl⟩
  ·rintro⟨y,hy,h⟩;exact⟨y,hy,(List.mem_singleton.1 h).symm⟩
 | a::r,now,e,ha,hn=>by
  have Ka:∀ x∈r,zis ps (pa x):=λ x hx=>ha x (List.mem_cons_of_mem _ hx)
  have vc:=ha a List.mem_cons_self;rw[ziq]
  cases aX:a.no with
  | true=>
   have e1:zqn (a::r)=zqn r:=(by unfold zqn;rw[List.filter_cons,aX];simp);rw[if_pos rfl,e1];exact zqg hS r now e Ka hn
  | false=>
   have e1:zqn (a::r)=pa a::zqn r:=(by unfold zqn;rw[List.filter_cons,aX];simp);have key:∀ x∈now,∀ f∈l,qA x.1 a f.aj=xG x.1 (pa a) (bN f.aj):=λ x hx f hf=>by
    refine zry (hn x hx) vc.w (hS.dM f hf).w λ e=>?_
    have h1:yX ps a.pred=some (pa a).ts.length:=vc.num;have h2:yX ps f.aj.pred=some (bN f.aj).2.length:=(hS.dM f hf).num;rw[e,h2] at h1;have:=Option.some.inj h1;simp only[bN,pa,List.length_map] at this;exact this.symm
   have hw:∀ y∈zgl a l now,oo y.1:=λ y hy=>by
    obtain⟨x,hx,hy⟩:=List.mem_flatMap.1 hy;obtain⟨f,hf,hm⟩:=(zkp l 0).1 ⟨y,hy,rfl⟩;rw[key x hx f hf] at hm;exact (zge vc (hS.dM f hf) (hn x hx) hm).1.w
   rw[if_neg (by decide),e1,zqg hS r (zgl a l now) e Ka hw]
   constructor
   ·rintro⟨y,hy,he⟩;obtain⟨x,hx,hy⟩:=List.mem_flatMap.1 hy;obtain⟨f,hf,hm⟩:=(zkp l 0).1 ⟨y,hy,rfl⟩;rw[key x hx f hf] at hm;refine⟨x,hx,?_⟩;rw[yD];refine List.mem_flatMap.2 ⟨(bN f.aj,f.h),(hS.mem _ _).2 ⟨f,hf,rfl,rfl⟩,?_⟩;rw[hm];exact he
   ·rintro⟨x,hx,he⟩;rw[yD] at he;obtain⟨p,hp,he⟩:=List.mem_flatMap.1 he;obtain⟨f,hf,bI,_⟩:=(hS.mem p.1 p.2).1 hp
    cases hm:xG x.1 (pa a) p.1 with
    | none=>rw[hm] at he;simp at he
    | some e1=>
     rw[hm] at he;have nw:qA x.1 a f.aj=some e1:=(by rw[key x hx f hf,bI];exact hm);obtain⟨y,hy,e2⟩:=(zkp (x:=x) l 0).2 ⟨f,hf,nw⟩;exact⟨y,List.mem_flatMap.2 ⟨x,hx,hy⟩,by rw[e2];exact he⟩
structure ue (R:zS)(r:PR):Prop where
 eq:r.R=yO R
 bd:r.bs.map (·.1)=r.R.body
variable {r:PR} {R:zS}
theorem ue.pos (h:ue R r):yP r.bs=zqn R.body:=by
 have e:r.bs.map (·.1)=R.body.map lP:=by rw[h.bd,h.eq];rfl
 unfold yP vV zqn;have:∀ (ls:List (vK × Value)) (b:List zL),ls.map (·.1)=b.map lP->((ls.filter (vA false)).map zl2).map (·.1)=(b.filter λ A=>!A.no).map pa:=by
  intro ls
  induction ls with
  | nil=>intro b hb;cases b with
   | nil=>rfl
   | cons x r=>cases hb
  | cons x q ih=>
   intro b hb
   cases b with
   | nil=>cases hb
   | cons A b=>
    rw[List.map_cons,List.map_cons] at hb;injection hb with h1 h2
    have:=ih b h2;rw[List.filter_cons,List.filter_cons];have hn:x.1.neg=A.no:=(by rw[h1];rfl);unfold vA at this ⊢;rw[hn]
    cases A.no with
    | true=>simpa using this
    | false=>
     simp only[Bool.not_false,if_true,beq_self_eq_true,List.map_cons];rw[this]
     congr 1
     show (⟨x.1.pd,x.1.ts⟩:jZ)=pa A
     rw[h1];rfl
 exact this _ _ e
theorem ue.neg {R:zS}{r:PR}(h:ue R r):zcv r.bs=ybm R.body:=by
 have e:r.bs.map (·.1)=R.body.map lP:=by rw[h.bd,h.eq];rfl
 unfold zcv vV ybm;have:∀ (ls:List (vK × Value)) (b:List zL),ls.map (·.1)=b.map lP->((ls.filter (vA true)).map zl2).map (·.1)=(b.filter λ A=>A.no).map pa:=by
  intro ls
  induction ls with
  | nil=>intro b hb;cases b with
   | nil=>rfl
   | cons x r=>cases hb
  | cons x q ih=>
   intro b hb
   cases b with
   | nil=>cases hb
   | cons A b=>
    rw[List.map_cons,List.map_cons] at hb;injection hb with h1 h2
    have:=ih b h2;rw[List.filter_cons,List.filter_cons];have hn:x.1.neg=A.no:=(by rw[h1];rfl);unfold vA at this ⊢;rw[hn]
    cases A.no with
    | false=>simpa using this
    | true=>
     simp only[if_true,beq_self_eq_true,List.map_cons];rw[this]
     congr 1
     show (⟨x.1.pd,x.1.ts⟩:jZ)=pa A
     rw[h1];rfl
 exact this _ _ e
theorem ue.hd (h:ue R r):gw r=pa R.head:=by unfold gw;rw[h.eq];rfl
theorem ue.body (h:ue R r)(hg:nP ps r):∀ a∈R.body,zis ps (pa a):=λ a ha=>by
 have e:lP a∈r.bs.map (·.1):=by rw[h.bd,h.eq];exact List.mem_map.2 ⟨a,ha,rfl⟩
 obtain⟨x,hx,Rb⟩:=List.mem_map.1 e;have:=hg.ls x hx;rw[Rb] at this;exact this
theorem zfs (hS:gu ps K l)(hr:ue R r)(hg:nP ps r)(e:yR):(∃ y∈ze4 R l,y.1=e)↔e∈zbe K (zcv r.bs) (yP r.bs) []:=by
 have h0:(∃ y∈ziq l R.body [([],[])],y.1=e)↔e∈yD K (yP r.bs) []:=by
  rw[zqg hS R.body [([],[])] e (hr.body hg) (λ x hx=>by rw[List.mem_singleton.1 hx];exact NU),hr.pos]
  constructor
  ·rintro⟨x,hx,h⟩;rw[List.mem_singleton.1 hx] at h;exact h
  ·exact λ h=>⟨_,List.mem_singleton.2 rfl,h⟩
 have h1:e∈yD K (yP r.bs) []->(R.body.all (ztj l e)=true↔j6 K (zcv r.bs) e=false):=λ he=>by
  have w:=hg.Hf hS.ti he;have wn:=w.neg;rw[hr.neg] at wn ⊢;unfold j6;rw[List.all_eq_true,List.any_eq_false]
  constructor
  ·intro h x hx;obtain⟨A,hA,rfl⟩:=List.mem_map.1 hx;obtain⟨hA,aX⟩:=List.mem_filter.1 hA;have:=h A hA;unfold ztj at this;simp only[aX,Bool.not_true,Bool.false_or,decide_eq_true_eq] at this;rw[DO,IP] at this;rw[(hS.find (wn _ hx)).1 this]
   decide
  ·intro h A hA;unfold ztj
   cases aX:A.no with
   | false=>rfl
   | true=>
    have hx:pa A∈ybm R.body:=List.mem_map.2 ⟨A,List.mem_filter.2 ⟨hA,aX⟩,rfl⟩;have:=h _ hx;simp only[Bool.not_true,Bool.false_or,decide_eq_true_eq];rw[DO,IP];exact (hS.find (wn _ hx)).2 (by simpa using this)
 unfold ze4 zbe
 constructor
 ·rintro⟨y,hy,rfl⟩;obtain⟨hy,hn⟩:=List.mem_filter.1 hy;have he:=h0.1 ⟨y,hy,rfl⟩;exact List.mem_filter.2 ⟨he,by rw[(h1 he).1 hn];rfl⟩
 ·intro he;obtain⟨he,hn⟩:=List.mem_filter.1 he;obtain⟨y,hy,rfl⟩:=h0.2 he;exact⟨y,List.mem_filter.2 ⟨hy,(h1 he).2 (by simpa using hn)⟩,rfl⟩
end
section
open Go.RowKit
noncomputable def z3r (k:Nat):Code:=((Tryz.f138.body.map zdo).getD []).getD k .skip
structure z53 (w:W8)(o:Nat)(rs:List RR)(ps:P9)(rv pv tv:Value)(gs:Nat)(S:Nat->Nat):Prop where
 prog:znv w o rs ps rv pv tv (.slice (some ⟨gs,0,none⟩) ps.length ps.length)
 og:ng w gs ps.length S
 body:∀ r∈rs,r.bs.length<=3
 atoms:∀ r∈rs,∀ a∈r.R.head::r.R.body,zns a
 Ny:∀ r∈rs,0<=zM ps r.R.head.pred
structure xz (w:W8)(v:Value)(fs:List FG)(wr:W8):Prop where
 below:Below w.heap.size w wr
 facts:yZ wr w.heap.size v fs
 ok:∀ f∈fs.map (·.F),zc5 f
variable {w:W8}
theorem xz.ctx {o:Nat}{rs:List RR}{ps:P9}{rv pv tv:Value}{gs:Nat}{S:Nat->Nat}{v:Value}{fs:List FG}{wr:W8}(h:xz w v fs wr)(hC:z53 w o rs ps rv pv tv gs S)(hf:fs.length<=50):yea wr o rs ps rv pv tv gs S w.heap.size fs v:=
 ⟨hC.prog.kept ((zK.refl [] _).ak h.below) (by simp),hC.og.kept ((zK.refl [] _).ak h.below),h.facts,hf,hC.body,λ r hr a ha=>(hC.atoms r hr a ha).eJ,hC.Ny,λ r hr x hx a ha=>ybp (zxo h.ok _ x hx) (hC.atoms r hr a ha)⟩
variable {base:Nat}
theorem z1p {out:List FG}(h:∀ x∈out,qZ w base x):∀ u∈out.flatMap FG.cells,u.oneCell'=true:=by
 intro u hu;obtain⟨x,hx,hu⟩:=List.mem_flatMap.1 hu;obtain⟨a1,a2,a3,a4,e1,e2⟩:=(h x hx).shape;simp only[FG.cells,e1,e2,List.mem_cons,List.not_mem_nil,or_false] at hu;rcases hu with rfl | rfl | rfl | rfl | rfl | rfl | rfl | rfl | rfl | rfl <;> rfl
variable {xs:V8} {size n cap:Nat} {e:TypeId}
theorem zsp {g:Nat}(h:w.ownsRow base e size (.slice (some ⟨g,0,none⟩) n cap) n xs):∀ j u,xs[j]?=some u->w.cell? ((⟨g,0,none⟩:Addr).add j)=some u:=by
 intro j u hj;have hl:xs.length=n*size:=h.1;have aH:j<xs.length:=(List.getElem?_eq_some_iff.1 hj).1;rcases h.2 with⟨h1,_⟩ | ⟨g',dn,cur,hv,hb,hg,bO,bQ,ij,ht⟩
 ·cases h1
 ·injection hv with h1 h2 h3
  injection h1 with h1
  injection h1 with h1
  subst h1;have:=h.cellAt j (by omega);unfold Addr.add
  split <;> simp_all
theorem zdh {P:Program}{ops:Array Oper}{rest:List Oper}{o:Oper}{a:Act}{Q:Exit->Act->W8->Prop}(Io:o.guard=none)(s x:Operand)(t:TypeId)(ho:o.op=.call { callee:=.builtin .append,args:=#[s,x],argTypes:=#[t,t] })(v xv:Value)(hs:a.eval s=v)(hx:a.eval x=xv)(hr:∀ ty,(Builtin.append_ #[t,t] ty #[v,xv]).run P w=.ok v w)(h:wpList P ops Q rest (a.put o.dst v) w):wpList P ops Q (o::rest) a w:=
 wpList_plain Io λ _ hK=>by
  unfold Oper.wp execOp;simp only[ho,resolve,invoke,builtin,Sem.run_bind,Sem.run_pure,Result.andThen_ok,List.map_toArray,List.map_cons,List.map_nil,hs,hx,hr];exact hK _ _ h
theorem z6m (w:W8)(b:O8)(n c:Nat)(h:n<=c)(a:O8)(c':Nat)(ty:TypeId):(Builtin.append_ #[250,250] ty #[.slice b n c,.slice a 0 c']).run Tryz.prog w=.ok (.slice b n c) w:=by
 obtain⟨i0,Af,bL,aY,bg⟩:=info_parts zpg;refine run_append_nothing w _ _ _ 262 i0 Tryz.underlying250 Af b n c h _ ?_
 cases a with
 | none=>exact Src.ofNil w Tryz.underlying250 c'
 | some a=>exact Src.ofSlice w Tryz.underlying250 a 0 c' [] (by simp) (by simp) (by simp)
theorem ybt {a:O8}(h:w.ownsRow base e size (.slice a n cap) n xs):n<=cap:=by
 rcases h.2 with⟨h1,h0⟩ | ⟨g',dn,cur,hv,hb,hg,bO,bQ,ij,ht⟩
 ·omega
 ·injection hv with h1 h2 h3
  omega
theorem ydn (w:W8)(o:Nat)(rs:List RR)(ps:P9)(rv pv tv:Value)(gs:Nat)(S:Nat->Nat)(hC:z53 w o rs ps rv pv tv gs S)(limit s:Nat)(hlim:limit<=50)(v6:Value)(fs:List FG)(ko:fs.length<=limit)(w1:W8)(hI:xz w v6 fs w1)
  {Q:Exit->Act->W8->Prop} {c2 c3 c7 c8 gy gV ie fO ig gW fD eG eL eM eN eO eQ eR eS eT eU eV eW fg fh fk fl fm fI fJ fK fP fQ fR fU fV fW dU fX fY fZ gd gh gi gP gQ fE:Value}
  (aT:∀ (DM:Value) (fi:List FG) (w2:W8) (rq rr ru tR tS tT ry rz rA rB rD rE rF rG rH rI rJ rK rL nM nN:Value),xz w DM fi w2->fi.length<=limit->zbr ps S (rs.map (·.R)) limit s 1 (fs.map (·.F)) (some (fi.map (·.F)))->Q (.exit 4) ⟨List.toArray (.pointer (some ⟨o,0,none⟩)::.int .i64 limit::c2::c3::.slice none 0 0::.bool false::DM::c7::c8::.int .i64 s::rq::rr::ru::gV::ie::fO::ig::gW::fD::eG::eL::eM::eN::eO::eQ::eR::eS::eT::eU::eV::eW::fg::fh::fk::fl::fm::tR::tS::tT::ry::rz::rA::rB::rD::rE::rF::rG::rH::rI::rJ::rK::rL::nM::nN::fE::[]),[]⟩ w2)
  (mW:∀ (DM:Value) (w2:W8) (rq rr ru tR tS tT ry rz rA rB rD rE rF rG rH rI rJ rK rL nM nN:Value),Below w.heap.size w w2->zbr ps S (rs.map (·.R)) limit s 1 (fs.map (·.F)) none->Q .ret ⟨List.toArray (.pointer (some ⟨o,0,none⟩)::.int .i64 limit::c2::c3::.slice none 0 0::.bool false::DM::c7::c8::.int .i64 s::rq::rr::ru::gV::ie::fO::ig::gW::fD::eG::eL::eM::eN::eO::eQ::eR::eS::eT::eU::eV::eW::fg::fh::fk::fl::fm::tR::tS::tT::ry::rz::rA::rB::rD::rE::rF::rG::rH::rI::rJ::rK::rL::nM::nN::fE::[]),[]⟩ w2):
  Code.wp Tryz.prog (Code.loop (z3r 2)) Q ⟨List.toArray (.pointer (some ⟨o,0,none⟩)::.int .i64 limit::c2::c3::.slice none 0 0::.bool false::v6::c7::c8::.int .i64 s::.bool true::.int .i64 1::gy::gV::ie::fO::ig::gW::fD::eG::eL::eM::eN::eO::eQ::eR::eS::eT::eU::eV::eW::fg::fh::fk::fl::fm::fI::fJ::fK::fP::fQ::fR::fU::fV::fW::dU::fX::fY::fZ::gd::gh::gi::gP::gQ::fE::[]),[]⟩ w1:=by
 conv=>arg 2;arg 1;whnf
 have HC:=zC hC;have HI:=zC hI;have HX:=zC aT;have HY:=zC mW;clear hC hI aT mW;obtain⟨i0,Af,bL,aY,bg⟩:=info_parts zpg
 go_loopg [4,5,6,10,11] (2*(51-fs.length)+1) (λ gg v4 v5 v mo nn wr=>v4=.slice none 0 0/\v5=.bool false/\∃ (n:Nat) (more:Bool) (fi:List FG),nn=.int .i64 n/\mo=.bool more/\fi.length<=limit/\n<=fi.length+2/\(more=true->n<=fi.length+1)/\gg=2*(51-fi.length)+(if more then 1 else 0)/\xz w v fi wr/\(more=true->∀ r,zbr ps S (rs.map (·.R)) limit s n (fi.map (·.F)) r->zbr ps S (rs.map (·.R)) limit s 1 (fs.map (·.F)) r)/\(more=false->zbr ps S (rs.map (·.R)) limit s 1 (fs.map (·.F)) (some (fi.map (·.F)))))
 exact⟨rfl,rfl,1,true,fs,rfl,rfl,ko,by omega,λ _=>by omega,rfl,zA HI,λ _ r h=>h,λ h=>by cases h⟩
 case round=>
  clear HI;obtain⟨rfl,rfl,n,more,fi,rfl,rfl,vb,hn,ia,bS,hI,Iu,aX⟩:=hrel;obtain⟨a6,c6,rfl⟩:=zD hI.facts.row;have HI:=zC hI
  cases more with
  | false=>
   have HE:=zC (aX rfl);clear hI Iu aX bS ia;go_wp2_with fail;apply zA HX
   ·exact zA HI
   ·exact vb
   ·exact zA HE
  | true=>
   have BZ:=zC (Iu rfl);have Qy:=ia rfl;have gZ:=z4v wr o rs ps rv pv tv gs S w.heap.size fi a6 c6 (hI.ctx (zA HC) (by omega)) s n;have cJ:=zC gZ;clear hI Iu aX gZ ia hn;simp only[if_true] at bS;go_wp2_with fail;refine (zA cJ).mono ?_;rintro e w2 ⟨v12,out,rfl,hR⟩;have hrel:=hR.rel;have oP:=(zA HI).facts.below hR.below;have dp:=(zA HI).below.trans (hR.below.mono (zA HI).below.size);have QY:=(zA HI).below.size
   have bR:=hrel.ok (zA HI).ok (λ R hR a ha=>by
    obtain⟨r,hr,rfl⟩:=List.mem_map.1 hR
    exact (zA HC).atoms r hr a ha)
   have Nj:∀ x∈out,qZ w2 w.heap.size x:=λ x hx=>(hR.facts.each x hx).low QY
   obtain⟨a12,gy,rfl⟩:=zD hR.facts.row;have kN:=hR.eJ
   cases out with
   | nil=>
    have HD:=zC (zA BZ _ (zbr.done hrel (by simpa using vb)));have eA:=zC (show xz w (.slice a6 fi.length c6) fi w2 from ⟨dp,oP,(zA HI).ok⟩);have PM:=ybt (zA HI).facts.row;have mx:¬ ((limit:Int)<fi.length):=(by omega);clear hR hrel oP dp bR Nj BZ cJ HI kN;have qk:=zC (z6m w2 a6 fi.length c6 PM a12 gy);go_wp2_with (at_builtin;go_must (refine zdh rfl _ _ _ rfl _ _ rfl rfl (zA qk) ?_));go_roundg (2*(51-fi.length));exact⟨rfl,rfl,n+1,false,fi,by go_num,rfl,vb,by omega,(λ h=>by cases h),by simp,zA eA,(λ h=>by cases h),λ _=>zA HD⟩;omega
   | cons x0 out0=>
    generalize hO:x0::out0=out at *;have aJ:0<out.length:=(by rw[<-hO];simp);have bF:out.map (·.F)≠[]:=(by rw[<-hO];simp);obtain⟨g12,W8,Q6,-,-,-,-,-⟩:=zb1 hR.facts.row (k:=0) aJ;injection Q6 with q1 q2 q3
    subst q1 q3;have dt:=zC (zsp hR.facts.row);have kT:=zC (z1p Nj);have hlen:(out.flatMap FG.cells).length=out.length*10:=hR.facts.row.1;have pR:=zC hlen
    have dO:=λ (w5:W8) (v':Value) (hg:w2.grownBy w5 (Value.slice a6 fi.length c6).ownBlock) (ay:w5.ownsRow w.heap.size 262 10 v' (fi.length+out.length) (fi.flatMap FG.cells++out.flatMap FG.cells))=>(show xz w v' (fi++out) w5 from ⟨zY dp (zK.aR hg) (dp.size) (λ b hm=>(oP.row.lt b (by simpa using hm)).1),oP.app Nj (zK.refl [] _) hg ay,λ f hf=>by
     rw[List.map_append] at hf;rcases List.mem_append.1 hf with hf | hf
     ·exact (zA HI).ok f hf
     ·exact bR f hf⟩)
    have mC:=zC dO;have gC:=zC oP.row;have sE:=zC hrel;have Ly:=dp.size;have IZ:=zC dp;have Wk:=zC bF;clear hR hrel oP dp bR Nj cJ HI dO hlen hO bF
    by_cases hbig:limit<fi.length+out.length
    ·have PH:(limit:Int)<(fi.length:Int)+out.length:=(by omega);have HT:=zC (zA BZ _ (zbr.fG (zA sE) (by simpa using hbig)));go_wp2_with (at_builtin;go_must (refine wpList_append_lies _ rfl _ _ _ rfl w.heap.size 262 i0 (.agg #[.string { data:=#[] },.slice none 0 0,.bool false,.int .i64 0,.int .i64 0,.string { data:=#[] },.int .i64 0,.int .i64 0,.int .i64 0,.slice none 0 0]) 10 128 Tryz.underlying250 Af bL aY bg rfl (by decide) (.slice a6 fi.length c6) fi.length _ rfl (zA gC) ⟨g12,0,none⟩ out.length gy (out.flatMap FG.cells) rfl (zA pR) (zA dt) (zA kT) aJ (by unfold maxLen;omega) (by omega) Ly _ rfl ?_;intro g cap w5 aq aU bW hlt5));have HM:=zC (zA mC w5 _ aU aq);clear aq aU mC gC;go_wp2_with fail;apply zA HY
     ·exact (zA HM).below
     ·exact zA HT
    ·have PH:¬ ((limit:Int)<(fi.length:Int)+out.length):=(by omega);have HT:=zC (λ r (h:zbr ps S (rs.map (·.R)) limit s (n+1) ((fi++out).map (·.F)) r)=>zA BZ r (zbr.more (zA sE) (zA Wk) (by simpa using hbig) (by rw[List.map_append] at h;exact h)));go_wp2_with (at_builtin;go_must (refine wpList_append_lies _ rfl _ _ _ rfl w.heap.size 262 i0 (.agg #[.string { data:=#[] },.slice none 0 0,.bool false,.int .i64 0,.int .i64 0,.string { data:=#[] },.int .i64 0,.int .i64 0,.int .i64 0,.slice none 0 0]) 10 128 Tryz.underlying250 Af bL aY bg rfl (by decide) (.slice a6 fi.length c6) fi.length _ rfl (zA gC) ⟨g12,0,none⟩ out.length gy (out.flatMap FG.cells) rfl (zA pR) (zA dt) (zA kT) aJ (by unfold maxLen;omega) (by omega) Ly _ rfl ?_;intro g cap w5 aq aU bW hlt5));have HM:=zC (zA mC w5 _ aU aq);clear aq aU mC gC;have QK:(0:Int)<out.length:=(by omega);go_wp2_with fail;go_roundg (2*(51-(fi++out).length)+1);exact⟨rfl,rfl,n+1,true,fi++out,by go_num,rfl,by simp;omega,by simp;omega,(λ _=>by simp;omega),by simp,zA HM,(λ _=>zA HT),λ h=>by cases h⟩;simp;omega
end
section
open Go.RowKit
def lQ (S:Nat->Nat):Nat->Nat
 | 0=>0
 | n+1=>max (lQ S n) (S n)
theorem zpr {S:Nat->Nat}{m:Nat}:∀ (n:Nat),(∀ i,i<n->S i<=m)->lQ S n<=m
 | 0,_=>Nat.zero_le _
 | n+1,h=>Nat.max_le.2 ⟨zpr n (λ i hi=>h i (by omega)),h n (by omega)⟩
theorem ydm (w:W8)(o:Nat)(rs:List RR)(ps:P9)(rv pv tv:Value)(gs:Nat)(S:Nat->Nat)(hC:z53 w o rs ps rv pv tv gs S)(limit di:Nat)(hlim:limit<=50)(Aw:di<=1000000)(w1:W8)(hI:xz w (.slice none 0 0) [] w1)
  {Q:Exit->Act->W8->Prop} {c2 c3 c8 gD ll gy gV ie fO ig gW fD eG eL eM eN eO eQ eR eS eT eU eV eW fg fh fk fl fm fI fJ fK fP fQ fR fU fV fW dU fX fY fZ gd gh gi gP gQ fE:Value}
  (aT:∀ (DM:Value) (fi:List FG) (w2:W8) (u9 rq rr ru DL u32 Bm Bn Bo tR tS tT ry rz rA rB rD rE rF rG rH rI rJ rK rL nM nN:Value),xz w DM fi w2->fi.length<=limit->zka ps S (rs.map (·.R)) limit di 0 [] (some (fi.map (·.F)))->Q (.exit 2) ⟨List.toArray (.pointer (some ⟨o,0,none⟩)::.int .i64 limit::c2::c3::.slice none 0 0::.bool false::DM::.int .i64 di::c8::u9::rq::rr::ru::gV::ie::fO::ig::gW::fD::eG::eL::eM::eN::eO::eQ::eR::eS::eT::eU::eV::eW::DL::u32::Bm::Bn::Bo::tR::tS::tT::ry::rz::rA::rB::rD::rE::rF::rG::rH::rI::rJ::rK::rL::nM::nN::fE::[]),[]⟩ w2)
  (mW:∀ (DM:Value) (w2:W8) (u9 rq rr ru DL u32 Bm Bn Bo tR tS tT ry rz rA rB rD rE rF rG rH rI rJ rK rL nM nN:Value),Below w.heap.size w w2->zka ps S (rs.map (·.R)) limit di 0 [] none->Q .ret ⟨List.toArray (.pointer (some ⟨o,0,none⟩)::.int .i64 limit::c2::c3::.slice none 0 0::.bool false::DM::.int .i64 di::c8::u9::rq::rr::ru::gV::ie::fO::ig::gW::fD::eG::eL::eM::eN::eO::eQ::eR::eS::eT::eU::eV::eW::DL::u32::Bm::Bn::Bo::tR::tS::tT::ry::rz::rA::rB::rD::rE::rF::rG::rH::rI::rJ::rK::rL::nM::nN::fE::[]),[]⟩ w2):
  Code.wp Tryz.prog (Code.loop (z3r 1)) Q ⟨List.toArray (.pointer (some ⟨o,0,none⟩)::.int .i64 limit::c2::c3::.slice none 0 0::.bool false::.slice none 0 0::.int .i64 di::c8::.int .i64 0::gD::ll::gy::gV::ie::fO::ig::gW::fD::eG::eL::eM::eN::eO::eQ::eR::eS::eT::eU::eV::eW::fg::fh::fk::fl::fm::fI::fJ::fK::fP::fQ::fR::fU::fV::fW::dU::fX::fY::fZ::gd::gh::gi::gP::gQ::fE::[]),[]⟩ w1:=by
 conv=>arg 2;arg 1;whnf
 have HC:=zC hC;have HI:=zC hI;have HX:=zC aT;have HY:=zC mW;clear hC hI aT mW
 go_loopg [4,5,6,9] (di+1) (λ gg v4 v5 v ss wr=>v4=.slice none 0 0/\v5=.bool false/\∃ (s:Nat) (fi:List FG),ss=.int .i64 s/\s<=di+1/\gg=di+1-s/\fi.length<=limit/\xz w v fi wr/\(∀ r,zka ps S (rs.map (·.R)) limit di s (fi.map (·.F)) r->zka ps S (rs.map (·.R)) limit di 0 [] r))
 exact⟨rfl,rfl,0,[],rfl,by omega,by omega,by simp,zA HI,λ r h=>h⟩
 case round=>
  clear HI;obtain⟨rfl,rfl,s,fi,rfl,hs,bS,vb,hI,Iu⟩:=hrel;obtain⟨a6,c6,rfl⟩:=zD hI.facts.row;have HI:=zC hI;have BZ:=zC Iu;clear hI Iu
  by_cases bM:s<=di
  ·have Ur:(s:Int)<=di:=(by omega);go_wp2_with fail;refine ydn w o rs ps rv pv tv gs S (zA HC) limit s hlim _ fi vb wr (zA HI) ?_ ?_
   ·intro v2 S3 w2;intros;rename_i dG lh B9;obtain⟨a2,c2,rfl⟩:=zD dG.facts.row;have eA:=zC dG;have mG:=zC (λ r (h:zka ps S (rs.map (·.R)) limit di (s+1) (S3.map (·.F)) r)=>zA BZ r (zka.next bM B9 h));clear dG B9 HI BZ;go_wp2_with fail;go_roundg (di+1-(s+1));exact⟨rfl,rfl,s+1,S3,by go_num,by omega,rfl,lh,zA eA,zA mG⟩;omega
   ·intro v2 w2;intros;rename_i lu B9;have ir:=zC lu;have mG:=zC (zA BZ _ (zka.gX bM B9));clear lu B9 HI BZ;apply zA HY
    ·exact zA ir
    ·exact zA mG
  ·have Ur:¬ ((s:Int)<=di):=(by omega);have HE:=zC (zA BZ _ (zka.ends (by omega)));go_wp2_with fail;apply zA HX
   ·exact zA HI
   ·exact vb
   ·exact zA HE
theorem ydl (w:W8)(o:Nat)(rs:List RR)(ps:P9)(rv pv tv:Value)(gs:Nat)(S:Nat->Nat)(hC:z53 w o rs ps rv pv tv gs S)(hS:∀ i,i<ps.length->S i<=1000000)
  {Q:Exit->Act->W8->Prop} {c1 c2 c3 c4 c5 c6 c9 gD ll gy gV ie fO ig gW fD eG eL eM eN eO eQ eR eS eT eU eV eW fg fh fk fl fm fI fJ fK fP fQ fR fU fV fW dU fX fY fZ gd gh gi gP gQ fE:Value}
  (aT:∀ (w2:W8) (u8 DJ Bj Bk u16 Bl DK Mb G3 G4 G5 G6 G7 G8 G9 Ha Hb Hc Hd:Value),Below w.heap.size w w2->Q (.exit 0) ⟨List.toArray (.pointer (some ⟨o,0,none⟩)::c1::c2::c3::c4::c5::c6::.int .i64 (lQ S ps.length)::u8::c9::gD::ll::gy::DJ::Bj::Bk::u16::Bl::DK::Mb::G3::G4::G5::G6::G7::G8::G9::Ha::Hb::Hc::Hd::fg::fh::fk::fl::fm::fI::fJ::fK::fP::fQ::fR::fU::fV::fW::dU::fX::fY::fZ::gd::gh::gi::gP::gQ::fE::[]),[]⟩ w2):
  Code.wp Tryz.prog (Code.loop (z3r 0)) Q ⟨List.toArray (.pointer (some ⟨o,0,none⟩)::c1::c2::c3::c4::c5::c6::.int .i64 0::.int .i64 0::c9::gD::ll::gy::gV::ie::fO::ig::gW::fD::eG::eL::eM::eN::eO::eQ::eR::eS::eT::eU::eV::eW::fg::fh::fk::fl::fm::fI::fJ::fK::fP::fQ::fR::fU::fV::fW::dU::fX::fY::fZ::gd::gh::gi::gP::gQ::fE::[]),[]⟩ w:=by
 conv=>arg 2;arg 1;whnf
 have bt:=yU hC.prog.fH;unfold maxLen at bt;have HC:=zC hC;have HX:=zC aT;have HS:=zC hS;clear hC aT hS
 go_loopg [7,8] ps.length (λ gg mm ii wr=>∃ (i:Nat),ii=.int .i64 i/\i<=ps.length/\gg=ps.length-i/\mm=.int .i64 (lQ S i)/\Below w.heap.size w wr)
 exact⟨0,rfl,by omega,by omega,rfl,Below.refl _ _⟩
 case round=>
  obtain⟨i,rfl,hi,bS,rfl,hB⟩:=hrel;have dg:=(zA HC).prog.kept ((zK.refl [] _).ak hB) (by simp);have gS:=(zA HC).og.kept ((zK.refl [] _).ak hB);have c3:=dg.c3;have rY:=dg.lt;have aZ:=gS.sz;have HB:=zC hB
  by_cases kP:i<ps.length
  ·have Cc:(i:Int)<ps.length:=(by omega);have hci:=gS.cell i kP;have dH:=zpr (S:=S) (m:=1000000) i (λ j hj=>zA HS j (by omega));have dD:=zA HS i kP;clear dg gS hB;go_wp2_with fail;go_roundg (ps.length-(i+1));exact⟨i+1,by go_num,by omega,rfl,by rw[lQ];go_num,zA HB⟩;omega
  ·have Cc:¬ ((i:Int)<ps.length):=(by omega);have Yd:i=ps.length:=(by omega);subst Yd;clear dg gS hB;go_wp2_with fail;apply zA HX;exact zA HB
inductive zqw (w:W8)(ps:P9)(S:Nat->Nat)(rs:List zS)(limit:Nat)(w':W8):Value->Value->Prop
 | yes {v:Value} {fs:List FG}:xz w v fs w'->fs.length<=limit->zka ps S rs limit (lQ S ps.length) 0 [] (some (fs.map (·.F)))->zqw w ps S rs limit w' v (.bool true)
 | no:Below w.heap.size w w'->zka ps S rs limit (lQ S ps.length) 0 [] none->zqw w ps S rs limit w' (.slice none 0 0) (.bool false)
def yac (w:W8)(ps:P9)(S:Nat->Nat)(rs:List zS)(limit:Nat)(e:Ending)(w':W8):Prop:=
 ∃ v b,e=.returned (.tuple #[v,b])/\zqw w ps S rs limit w' v b
theorem zr4 (w:W8)(o:Nat)(rs:List RR)(ps:P9)(rv pv tv:Value)(gs:Nat)(S:Nat->Nat)(hC:z53 w o rs ps rv pv tv gs S)(hS:∀ i,i<ps.length->S i<=1000000)(limit:Nat)(hlim:limit<=50):
  Calls Tryz.prog 138 #[.pointer (some ⟨o,0,none⟩),.int .i64 limit] w (yac w ps S (rs.map (·.R)) limit):=by
 have HC:=zC hC;have HS:=zC hS;clear hC hS;go_enter Tryz.func138,Tryz.ntmps138;go_wp2_with fail;refine ydl w o rs ps rv pv tv gs S (zA HC) (zA HS) ?_;intro w1;intros;rename_i gz;have H0:=zC (show xz w (.slice none 0 0) [] w1 from ⟨gz,⟨World.ownsRow_nil _ _ _ _,by simp⟩,by simp⟩);clear gz;have bh:=zpr (S:=S) (m:=1000000) ps.length (zA HS);generalize Aw:lQ S ps.length=di at *;have HM:=zC Aw;clear Aw;go_wp2_with fail;refine ydm w o rs ps rv pv tv gs S (zA HC) limit di hlim bh w1 (zA H0) ?_ ?_
 ·intro v6 fs w2;intros;rename_i hI hl hT;obtain⟨a6,c6,rfl⟩:=zD hI.facts.row;have HF:=zC (show zqw w ps S (rs.map (·.R)) limit w2 (.slice a6 fs.length c6) (.bool true) from .yes hI hl (by rw[zA HM];exact hT));clear hI hl hT H0;go_wp2_with fail
  go_ret2
  exact⟨_,_,rfl,zA HF⟩
 ·intro v6 w2;intros;rename_i hB hT;have HF:=zC (show zqw w ps S (rs.map (·.R)) limit w2 (.slice none 0 0) (.bool false) from .no hB (by rw[zA HM];exact hT));clear hB hT H0
  go_ret2
  exact⟨_,_,rfl,zA HF⟩
end
end Go.Proofs.YtldkpahaocjdpaaGreat
