/-
  Plain: what a rule says, in the reference's words and in the program's.
-/
import Derived.Test.YtldkpahaocjdpaaGreatM26
set_option maxHeartbeats 16000000
set_option maxRecDepth 1000000
namespace Go.Proofs.YtldkpahaocjdpaaGreat
section
theorem lT (v n u:B8):∀ e:zX,pAt (e++[(v,n)]) u=match pAt e u with | some x=>some x | none=>if v.toList==u.toList then some n else none
 | []=>by rw[List.nil_append,pAt,pAt];simp[pAt]
 | x::r=>by
  rw[List.cons_append,pAt,pAt]
  by_cases c:(x.1.toList==u.toList)=true
  ·rw[if_pos c,if_pos c]
  ·rw[if_neg c,if_neg c];exact lT v n u r
structure kH (e e':zX)(k:Nat):Prop where
 w:dU e'
 len:e'.length<=e.length+k
 ext:∀ v x,pAt e v=some x->pAt e' v=some x
variable {e:zX}
theorem kH.refl (h:dU e):kH e e 0:=⟨h,by omega,λ _ _ h=>h⟩
variable {e':zX}
theorem z9y {t:zb0}{n:B8}(hn:bV n)(he:dU e)(h:pmT e t n=some e'):kH e e' 1/\(t.1=true->∃ x,pAt e' t.2=some x):=by
 unfold pmT at h
 by_cases hv:t.1=true
 ·rw[if_pos hv] at h;unfold pmB at h
  cases hp:pAt e t.2 with
  | none=>
   rw[hp] at h
   cases h
   refine⟨⟨he.snoc hn,by simp,λ v x hx=>by rw[lT,hx]⟩,λ _=>⟨n,?_⟩⟩;rw[lT,hp];simp
  | some x=>
   rw[hp] at h;simp only at h
   split at h
   ·cases h;exact⟨⟨he,by omega,λ _ _ h=>h⟩,λ _=>⟨x,hp⟩⟩
   ·cases h
 ·rw[if_neg hv] at h
  split at h
  ·cases h;exact⟨⟨he,by omega,λ _ _ h=>h⟩,λ c=>absurd c hv⟩
  ·cases h
theorem zv0:∀ (ts:List zb0) (ns:List B8) (e e':zX),ts.length=ns.length->(∀ x∈ns,bV x)->dU e->zd9 e ts ns=some e'->kH e e' ts.length/\∀ t∈ts,t.1=true->∃ x,pAt e' t.2=some x
 | [],_,e,e',_,_,he,h=>by
  rw[zd9] at h
  cases h
  exact⟨kH.refl he,by simp⟩
 | t::ts,[],_,_,hl,_,_,_=>by cases hl
 | t::ts,n::ns,e,e',hl,hn,he,h=>by
  rw[zd9] at h;simp only[List.headD_cons,List.tail_cons] at h
  cases h1:pmT e t n with
  | none=>rw[h1] at h;cases h
  | some e1=>
   rw[h1] at h;simp only at h;obtain⟨g1,b1⟩:=z9y (hn n List.mem_cons_self) he h1;obtain⟨g2,b2⟩:=zv0 ts ns e1 e' (by simpa using hl) (λ x hx=>hn x (List.mem_cons_of_mem _ hx)) g1.w h;refine⟨⟨g2.w,by have:=g1.len;have:=g2.len;simp;omega,λ v x hx=>g2.ext v x (g1.ext v x hx)⟩,λ u hu hv=>?_⟩;rcases List.mem_cons.1 hu with rfl | hu
   ·obtain⟨x,hx⟩:=b1 hv;exact⟨x,g2.ext _ _ hx⟩
   ·exact b2 u hu hv
variable {ps:P9}
theorem znv {a:xG}{t:Th}(ha:zoh ps a)(ht:eE ps t)(he:dU e)(h:yA e a t=some e'):kH e e' 4/\∀ t∈a.ts,t.1=true->∃ x,pAt e' t.2=some x:=by
 unfold yA at h
 split at h
 ·rename_i c;have hp:a.p=t.1:=yD.1 c;have hl:a.ts.length=t.2.length:=by
   have h1:=ha.num;rw[hp,ht.num] at h1;exact (Option.some.inj h1).symm
  obtain⟨g,b⟩:=zv0 a.ts t.2 e e' hl ht.w.ts he h;exact⟨⟨g.w,by have:=g.len;have:=ha.w.ft;omega,g.ext⟩,b⟩
 ·cases h
theorem zcc {ps:P9}{K:List (Th × Nat)}(hK:∀ p∈K,eE ps p.1):∀ (pos:List xG) (e0 e:zX),(∀ a∈pos,zoh ps a)->dU e0->e∈zP K pos e0->kH e0 e (4*pos.length)/\∀ a∈pos,∀ t∈a.ts,t.1=true->∃ x,pAt e t.2=some x
 | [],e0,e,_,he,h=>by
  rw[zP] at h;rw[List.mem_singleton.1 h];exact⟨kH.refl he,by simp⟩
 | a::r,e0,e,ha,he,h=>by
  rw[zP] at h;obtain⟨p,hp,h⟩:=List.mem_flatMap.1 h
  cases hm:yA e0 a p.1 with
  | none=>rw[hm] at h;simp at h
  | some e1=>
   rw[hm] at h;simp only at h;obtain⟨g1,b1⟩:=znv (ha a List.mem_cons_self) (hK p hp) he hm;obtain⟨g2,b2⟩:=zcc hK r e1 e (λ x hx=>ha x (List.mem_cons_of_mem _ hx)) g1.w h;refine⟨⟨g2.w,by have:=g1.len;have:=g2.len;simp;omega,λ v x hx=>g2.ext v x (g1.ext v x hx)⟩,λ x hx t ht hv=>?_⟩;rcases List.mem_cons.1 hx with rfl | hx
   ·obtain⟨y,hy⟩:=b1 t ht hv;exact⟨y,g2.ext _ _ hy⟩
   ·exact b2 x hx t ht hv
theorem zg7 {A:xG}(hA:zoh ps A)(he:dU e)(hb:∀ t∈A.ts,t.1=true->∃ x,pAt e t.2=some x):eE ps (zY e A):=by
 refine⟨⟨hA.w.pd,λ x hx=>?_⟩,?_,?_⟩
 ·obtain⟨t,ht,rfl⟩:=List.mem_map.1 hx;unfold cd
  split
  ·rename_i hv;obtain⟨x,h1⟩:=hb t ht hv;unfold dq;rw[h1];exact z5q he h1
  ·exact hA.w.ts t ht
 ·show z6 ps A.p=some (A.ts.map (cd e)).length
  rw[List.length_map];exact hA.num
 ·show (A.ts.map (cd e)).length<=4
  rw[List.length_map];exact hA.w.ft
theorem eE.ok {t:Th}(h:eE ps t):zba t:=
 ⟨by have:=h.w.pd.le;show t.1.size<=_;omega,h.ft,λ x hx=>by have:=(h.w.ts x hx).le;omega,λ x hx=>(h.w.ts x hx).ne⟩
theorem z09 {ls:List (yX × Value)}{a:xG}:a∈zL ls↔∃ x∈ls,x.1.neg=false/\a=⟨x.1.pd,x.1.ts⟩:=by
 unfold zL zU;simp only[List.map_map,List.mem_map,List.mem_filter,Function.comp_def,zhc,yW]
 constructor
 ·rintro⟨x,⟨h1,h2⟩,rfl⟩;exact⟨x,h1,by simpa using h2,rfl⟩
 ·rintro⟨x,h1,h2,rfl⟩;exact⟨x,⟨h1,by simp[h2]⟩,rfl⟩
theorem z08 {ls:List (yX × Value)}{a:xG}:a∈vU ls↔∃ x∈ls,x.1.neg=true/\a=⟨x.1.pd,x.1.ts⟩:=by
 unfold vU zU;simp only[List.map_map,List.mem_map,List.mem_filter,Function.comp_def,zhc,yW]
 constructor
 ·rintro⟨x,⟨h1,h2⟩,rfl⟩;exact⟨x,h1,by simpa using h2,rfl⟩
 ·rintro⟨x,h1,h2,rfl⟩;exact⟨x,⟨h1,by simp[h2]⟩,rfl⟩
structure jW (ps:P9)(r:PR):Prop where
 l3:r.bs.length<=3
 hd:zoh ps (vZ r)
 ls:∀ x∈r.bs,zoh ps ⟨x.1.pd,x.1.ts⟩
 mP:∀ t∈(vZ r).ts,t.1=true->∃ a∈zL r.bs,t∈a.ts
 mQ:∀ x∈vU r.bs,∀ t∈x.ts,t.1=true->∃ a∈zL r.bs,t∈a.ts
variable {r:PR}
theorem jW.pos (h:jW ps r):∀ a∈zL r.bs,zoh ps a:=λ a ha=>by
 obtain⟨x,hx,_,rfl⟩:=z09.1 ha;exact h.ls x hx
theorem jW.neg (h:jW ps r):∀ a∈vU r.bs,zoh ps a:=λ a ha=>by
 obtain⟨x,hx,_,rfl⟩:=z08.1 ha;exact h.ls x hx
theorem z9z (ls:List (yX × Value)):(zL ls).length<=ls.length:=by
 unfold zL zU;rw[List.length_map,List.length_map];exact List.length_filter_le _ _
theorem zou:dU []:=λ p hp=>by cases hp
structure ycp (ps:P9)(r:PR)(e:zX):Prop where
 w:dU e
 len:e.length<=12
 hd:eE ps (zY e (vZ r))
 neg:∀ x∈vU r.bs,eE ps (zY e x)
theorem jW.rE (h:jW ps r){K:List (Th × Nat)}(hK:∀ p∈K,eE ps p.1)(he:e∈zP K (zL r.bs) []):ycp ps r e:=by
 obtain⟨g,b⟩:=zcc hK (zL r.bs) [] e h.pos zou he;refine⟨g.w,?_,zg7 h.hd g.w λ t ht hv=>?_,λ x hx=>zg7 (h.neg x hx) g.w λ t ht hv=>?_⟩
 ·have h1:=g.len;have h2:=z9z r.bs;have h3:=h.l3;rw[List.length_nil] at h1;omega
 ·obtain⟨a,ha,zu⟩:=h.mP t ht hv;exact b a ha t zu hv
 ·obtain⟨a,ha,zu⟩:=h.mQ x hx t ht hv;exact b a ha t zu hv
theorem zej {rs:List PR}(h:∀ r∈rs,jW ps r):eD rs (eE ps):=λ _ hK r hr=>
 have g:=h r hr
 ⟨⟨g.l3,λ x hx=>(g.ls x hx).w.ft,g.hd.w.ft,λ _ he x hx=>((g.rE hK he).neg x hx).ok,λ _ he=>(g.rE hK he).hd.ok,λ _ he=>(g.rE hK he).len⟩,λ _ he=>(g.rE hK he).hd⟩
theorem z8c {t:Th}(h:eE ps t):(zbm t.1 (xC t)).length<=1000000000:=by
 have h1:=zlv (xC t) 0 (λ x hx=>by have:=(h.w.aS x hx).le;omega);have h2:(xC t).length=t.2.length:=by unfold xC;simp
 have h3:=h.ft;have h4:=h.w.pd.le;have h5:=ze9 t.1;unfold zbm;rw[List.length_append,List.length_append];have h6:(if (xC t).length=0 then ([]:List UInt8) else [41]).length<=1:=by split <;> simp
 have h7:(xC t).length*1001<=4*1001:=Nat.mul_le_mul_right _ (by omega);omega
end
section
def ycx (b:List yQ):List xG:=(b.filter λ A=>!A.no).map pa
def ybu (b:List yQ):List xG:=(b.filter λ A=>A.no).map pa
structure jk (R:yL)(r:PR):Prop where
 eq:r.R=yM R
 bd:r.bs.map (·.1)=r.R.body
variable {r:PR} {R:yL}
theorem jk.pos (h:jk R r):zL r.bs=ycx R.body:=by
 have e:r.bs.map (·.1)=R.body.map aW:=by rw[h.bd,h.eq];rfl
 unfold zL zU ycx;have:∀ (ls:List (yX × Value)) (b:List yQ),ls.map (·.1)=b.map aW->((ls.filter (yW false)).map zhc).map (·.1)=(b.filter λ A=>!A.no).map pa:=by
  intro ls
  induction ls with
  | nil=>intro b hb;cases b with
   | nil=>rfl
   | cons x r=>cases hb
  | cons x q ih=>
   intro b hb
   cases b with
   | nil=>cases hb
   | cons A b=>
    rw[List.map_cons,List.map_cons] at hb;injection hb with h1 h2
    have:=ih b h2;rw[List.filter_cons,List.filter_cons];have hn:x.1.neg=A.no:=(by rw[h1];rfl);unfold yW at this ⊢;rw[hn]
    cases A.no with
    | true=>simpa using this
    | false=>
     simp only[Bool.not_false,if_true,beq_self_eq_true,List.map_cons];rw[this]
     congr 1
     show (⟨x.1.pd,x.1.ts⟩:xG)=pa A
     rw[h1];rfl
 exact this _ _ e
theorem jk.neg {R:yL}{r:PR}(h:jk R r):vU r.bs=ybu R.body:=by
 have e:r.bs.map (·.1)=R.body.map aW:=by rw[h.bd,h.eq];rfl
 unfold vU zU ybu;have:∀ (ls:List (yX × Value)) (b:List yQ),ls.map (·.1)=b.map aW->((ls.filter (yW true)).map zhc).map (·.1)=(b.filter λ A=>A.no).map pa:=by
  intro ls
  induction ls with
  | nil=>intro b hb;cases b with
   | nil=>rfl
   | cons x r=>cases hb
  | cons x q ih=>
   intro b hb
   cases b with
   | nil=>cases hb
   | cons A b=>
    rw[List.map_cons,List.map_cons] at hb;injection hb with h1 h2
    have:=ih b h2;rw[List.filter_cons,List.filter_cons];have hn:x.1.neg=A.no:=(by rw[h1];rfl);unfold yW at this ⊢;rw[hn]
    cases A.no with
    | false=>simpa using this
    | true=>
     simp only[if_true,beq_self_eq_true,List.map_cons];rw[this]
     congr 1
     show (⟨x.1.pd,x.1.ts⟩:xG)=pa A
     rw[h1];rfl
 exact this _ _ e
theorem jk.hd (h:jk R r):vZ r=pa R.head:=by unfold vZ;rw[h.eq];rfl
end
section
def Ext (e x:zX):Prop:=∀ v y,pAt e v=some y->pAt x v=some y
def Dom (e:zX)(a:xG):Prop:=∀ t∈a.ts,t.1=true->∃ x,pAt e t.2=some x
theorem Ext.refl (e:zX):Ext e e:=λ _ _ h=>h
theorem Ext.trans {a b c:zX}(h:Ext a b)(k:Ext b c):Ext a c:=λ v y hv=>k v y (h v y hv)
theorem Ext.nil (e:zX):Ext [] e:=λ v y h=>by cases h
theorem Ext.cd {e x:zX}(h:Ext e x){t:zb0}(hd:t.1=true->∃ y,pAt e t.2=some y):cd x t=cd e t:=by
 unfold Go.Proofs.YtldkpahaocjdpaaGreat.cd
 split
 ·rename_i ht;obtain⟨y,hy⟩:=hd ht;unfold dq;rw[h _ _ hy,hy]
 ·rfl
variable {e x:zX}
theorem Ext.fill (h:Ext e x){a:xG}(hd:Dom e a):zY x a=zY e a:=
 Prod.ext rfl (List.map_congr_left λ t ht=>h.cd (hd t ht))
theorem Ext.IL (h:Ext e x){a:xG}(hd:Dom e a):Dom x a:=λ t ht hv=>let ⟨y,hy⟩:=hd t ht hv;⟨y,h _ _ hy⟩
variable {e':zX}
theorem z5z {t:zb0}{n:B8}(h:pmT e t n=some e'):Ext e e'/\cd e' t=n/\(t.1=true->∃ x,pAt e' t.2=some x):=by
 unfold pmT at h
 by_cases hv:t.1=true
 ·rw[if_pos hv] at h;unfold pmB at h
  cases hp:pAt e t.2 with
  | none=>
   rw[hp] at h
   cases h
   have h2:pAt (e++[(t.2,n)]) t.2=some n:=(by rw[lT,hp];simp);refine⟨λ v x hx=>by rw[lT,hx],?_,λ _=>⟨n,h2⟩⟩;unfold cd dq;rw[if_pos hv,h2];rfl
  | some x=>
   rw[hp] at h;simp only at h
   split at h
   ·rename_i hq
    cases h
    refine⟨Ext.refl _,?_,λ _=>⟨x,hp⟩⟩;unfold cd dq;rw[if_pos hv,hp];exact yD.1 hq
   ·cases h
 ·rw[if_neg hv] at h
  split at h
  ·rename_i hq
   cases h
   refine⟨Ext.refl _,?_,λ c=>absurd c hv⟩;unfold cd;rw[if_neg hv];exact yD.1 hq
  ·cases h
theorem ybz (hx:Ext e x){t:zb0}(hd:t.1=true->∃ y,pAt x t.2=some y):∃ e',pmT e t (cd x t)=some e'/\Ext e' x:=by
 unfold pmT cd
 by_cases hv:t.1=true
 ·obtain⟨y,hy⟩:=hd hv;rw[if_pos hv,if_pos hv];unfold dq pmB;rw[hy];simp only[Option.getD_some]
  cases hp:pAt e t.2 with
  | none=>
   refine⟨_,rfl,λ v z hz=>?_⟩;rw[lT] at hz
   cases hq:pAt e v with
   | some q=>rw[hq] at hz;cases hz;exact hx _ _ hq
   | none=>
    rw[hq] at hz;simp only at hz
    split at hz
    ·rename_i hc
     cases hz
     rw[<-yD.1 hc];exact hy
    ·cases hz
  | some q=>
   have:=hx _ _ hp;rw[hy] at this
   cases this
   exact⟨e,by simp,hx⟩
 ·rw[if_neg hv,if_neg hv];exact⟨e,by simp,hx⟩
theorem zrp:∀ (ts:List zb0) (ns:List B8) (e e':zX),ts.length=ns.length->zd9 e ts ns=some e'->Ext e e'/\ts.map (cd e')=ns/\∀ t∈ts,t.1=true->∃ x,pAt e' t.2=some x
 | [],[],e,e',_,h=>by rw[zd9] at h;cases h;exact⟨Ext.refl _,rfl,by simp⟩
 | [],_::_,_,_,hl,_=>by cases hl
 | _::_,[],_,_,hl,_=>by cases hl
 | t::ts,n::ns,e,e',hl,h=>by
  rw[zd9] at h;simp only[List.headD_cons,List.tail_cons] at h
  cases h1:pmT e t n with
  | none=>rw[h1] at h;cases h
  | some e1=>
   rw[h1] at h;simp only at h;obtain⟨g1,b1,d1⟩:=z5z h1;obtain⟨g2,b2,d2⟩:=zrp ts ns e1 e' (by simpa using hl) h;refine⟨g1.trans g2,?_,λ u hu hv=>?_⟩
   ·rw[List.map_cons,b2,g2.cd d1,b1]
   ·rcases List.mem_cons.1 hu with rfl | hu
    ·obtain⟨x,hx⟩:=d1 hv;exact⟨x,g2 _ _ hx⟩
    ·exact d2 u hu hv
theorem z1z {x:zX}:∀ (ts:List zb0) (e:zX),Ext e x->(∀ t∈ts,t.1=true->∃ y,pAt x t.2=some y)->∃ e',zd9 e ts (ts.map (cd x))=some e'/\Ext e' x
 | [],e,h,_=>⟨e,rfl,h⟩
 | t::ts,e,h,hd=>by
  obtain⟨e1,h1,g1⟩:=ybz h (hd t List.mem_cons_self);obtain⟨e2,h2,g2⟩:=z1z ts e1 g1 (λ u hu=>hd u (List.mem_cons_of_mem _ hu));refine⟨e2,?_,g2⟩;rw[zd9];simp only[List.map_cons,List.headD_cons,List.tail_cons];rw[h1];exact h2
def yb8 (a:xG)(t:Th):Prop:=a.p=t.1->a.ts.length=t.2.length
variable {ps:P9}
theorem zku {a:xG}{t:Th}(ha:zoh ps a)(ht:eE ps t):yb8 a t:=λ e=>by
 have h1:=ha.num;rw[e,ht.num] at h1;exact (Option.some.inj h1).symm
theorem zln {a:xG}{t:Th}(hf:yb8 a t)(h:yA e a t=some e'):Ext e e'/\zY e' a=t/\Dom e' a:=by
 unfold yA at h
 split at h
 ·rename_i c;have hp:a.p=t.1:=yD.1 c;obtain⟨g,b,d⟩:=zrp a.ts t.2 e e' (hf hp) h;exact⟨g,Prod.ext hp b,d⟩
 ·cases h
theorem zlo (hx:Ext e x){a:xG}(hd:Dom x a):∃ e',yA e a (zY x a)=some e'/\Ext e' x:=by
 obtain⟨e',h1,h2⟩:=z1z a.ts e hx hd;refine⟨e',?_,h2⟩;unfold yA;rw[if_pos (by simp[zY])];exact h1
theorem vP {K:List (Th × Nat)}:∀ (pos:List xG) (e x:zX),(∀ a∈pos,∀ p∈K,yb8 a p.1)->x∈zP K pos e->Ext e x/\∀ a∈pos,Dom x a/\∃ n,(zY x a,n)∈K
 | [],e,x,_,h=>by
  rw[zP] at h;rw[List.mem_singleton.1 h];exact⟨Ext.refl _,by simp⟩
 | a::r,e,x,hf,h=>by
  rw[zP] at h;obtain⟨p,hp,h⟩:=List.mem_flatMap.1 h
  cases hm:yA e a p.1 with
  | none=>rw[hm] at h;simp at h
  | some e1=>
   rw[hm] at h;simp only at h;obtain⟨g1,b1,d1⟩:=zln (hf a List.mem_cons_self p hp) hm;obtain⟨g2,b2⟩:=vP r e1 x (λ y hy=>hf y (List.mem_cons_of_mem _ hy)) h;refine⟨g1.trans g2,λ y hy=>?_⟩;rcases List.mem_cons.1 hy with rfl | hy
   ·exact⟨g2.IL d1,p.2,by rw[g2.fill d1,b1];exact hp⟩
   ·exact b2 y hy
theorem zgn {K:List (Th × Nat)}{x:zX}:∀ (pos:List xG) (e:zX),Ext e x->(∀ a∈pos,Dom x a/\∃ n,(zY x a,n)∈K)->∃ e'∈zP K pos e,Ext e' x
 | [],e,h,_=>⟨e,by rw[zP];exact List.mem_singleton.2 rfl,h⟩
 | a::r,e,h,hd=>by
  obtain⟨d,n,hn⟩:=hd a List.mem_cons_self;obtain⟨e1,h1,g1⟩:=zlo h d;obtain⟨e2,h2,g2⟩:=zgn r e1 g1 (λ y hy=>hd y (List.mem_cons_of_mem _ hy));refine⟨e2,?_,g2⟩;rw[zP];refine List.mem_flatMap.2 ⟨_,hn,?_⟩;rw[h1];exact h2
def jV (N:List (Th × Nat))(pos:List xG)(e:zX):List Nat:=pos.map λ a=>(zW N (zY e a)).getD 0
def zaf (N:List (Th × Nat))(r:PR)(t:Th):List (List Nat):=match yA [] (vZ r) t with
 | none=>[]
 | some s=>(qH N (vU r.bs) (zL r.bs) s).map (jV N (zL r.bs))
variable {N:List (Th × Nat)}
theorem zr0 {pos:List xG}(h:Ext e x)(hd:∀ a∈pos,Dom e a):jV N pos x=jV N pos e:=
 List.map_congr_left λ a ha=>by rw[h.fill (hd a ha)]
theorem znf {K:List (Th × Nat)}{neg:List xG}(h:Ext e x)(hd:∀ a∈neg,Dom e a):jS K neg x=jS K neg e:=by
 unfold jS;have:∀ l:List xG,(∀ a∈l,a∈neg)->(l.any λ a=>(zW K (zY x a)).isSome)=l.any λ a=>(zW K (zY e a)).isSome:=by
  intro l
  induction l with
  | nil=>intro _;rfl
  | cons a r ih=>intro hl;rw[List.any_cons,List.any_cons,ih (λ b hb=>hl b (List.mem_cons_of_mem _ hb)),h.fill (hd a (hl a List.mem_cons_self))]
 exact this neg (λ _ h=>h)
variable {r:PR}
theorem jW.gV (hg:jW ps r)(h:∀ a∈zL r.bs,Dom e a):∀ a∈vU r.bs,Dom e a:=λ a ha t ht hv=>by
 obtain⟨b,hb,Dr⟩:=hg.mQ a ha t ht hv;exact h b hb t Dr hv
theorem jW.tT (hg:jW ps r)(h:∀ a∈zL r.bs,Dom e a):Dom e (vZ r):=λ t ht hv=>by
 obtain⟨b,hb,Dr⟩:=hg.mP t ht hv;exact h b hb t Dr hv
theorem zis (hN:∀ p∈N,eE ps p.1)(hg:jW ps r){t:Th}(ht:eE ps t)(row:List Nat):row∈zaf N r t↔∃ e∈qH N (vU r.bs) (zL r.bs) [],zY e (vZ r)=t/\jV N (zL r.bs) e=row:=by
 have ew:∀ a∈zL r.bs,∀ p∈N,yb8 a p.1:=λ a ha p hp=>zku (hg.pos a ha) (hN p hp)
 constructor
 ·intro h;unfold zaf at h
  cases hs:yA [] (vZ r) t with
  | none=>rw[hs] at h;cases h
  | some s=>
   rw[hs] at h;obtain⟨x,hx,rfl⟩:=List.mem_map.1 h;obtain⟨hx,ui⟩:=List.mem_filter.1 hx;obtain⟨-,b1,d1⟩:=zln (zku hg.hd ht) hs;obtain⟨g2,b2⟩:=vP _ _ _ ew hx;obtain⟨e,he,g3⟩:=zgn (zL r.bs) [] (Ext.nil x) b2;have d3:∀ a∈zL r.bs,Dom e a:=λ a ha=>((vP _ _ _ ew he).2 a ha).1
   refine⟨e,List.mem_filter.2 ⟨he,?_⟩,?_,(zr0 g3 d3).symm⟩
   ·rw[<-znf g3 (hg.gV d3)];exact ui
   ·rw[<-g3.fill (hg.tT d3),g2.fill d1,b1]
 ·rintro⟨e,he,hh,rfl⟩;obtain⟨he,ui⟩:=List.mem_filter.1 he;obtain⟨-,b2⟩:=vP _ _ _ ew he;have d2:∀ a∈zL r.bs,Dom e a:=λ a ha=>(b2 a ha).1
  obtain⟨s,hs,gs⟩:=zlo (Ext.nil e) (hg.tT d2);rw[hh] at hs;obtain⟨x,hx,g3⟩:=zgn (zL r.bs) s gs b2;have d3:∀ a∈zL r.bs,Dom x a:=λ a ha=>((vP _ _ _ ew hx).2 a ha).1
  unfold zaf;rw[hs];refine List.mem_map.2 ⟨x,List.mem_filter.2 ⟨hx,?_⟩,(zr0 g3 d3).symm⟩;rw[<-znf g3 (hg.gV d3)];exact ui
end
end Go.Proofs.YtldkpahaocjdpaaGreat
