/-
  Plain: what a rule says, in the reference's words and in the program's.
-/
import Derived.Test.YtldkpahaocjdpaaGreatD26
set_option maxHeartbeats 16000000
set_option maxRecDepth 1000000
namespace Go.Proofs.YtldkpahaocjdpaaGreat
section
theorem vc (v n u:B8):∀ e:zX,pAt (e++[(v,n)]) u=match pAt e u with | some x=>some x | none=>if v.toList==u.toList then some n else none
 | []=>by rw[List.nil_append,pAt,pAt];simp[pAt]
 | x::r=>by
  rw[List.cons_append,pAt,pAt]
  by_cases c:(x.1.toList==u.toList)=true
  ·rw[if_pos c,if_pos c]
  ·rw[if_neg c,if_neg c];exact vc v n u r
structure oG (e e':zX)(k:Nat):Prop where
 w:ew e'
 len:e'.length<=e.length+k
 ext:∀ v x,pAt e v=some x->pAt e' v=some x
variable {e:zX}
theorem oG.refl (h:ew e):oG e e 0:=⟨h,by omega,λ _ _ h=>h⟩
variable {e':zX}
theorem ya6 {t:zb8}{n:B8}(hn:aM n)(he:ew e)(h:pmT e t n=some e'):oG e e' 1/\(t.1=true->∃ x,pAt e' t.2=some x):=by
 unfold pmT at h
 by_cases hv:t.1=true
 ·rw[if_pos hv] at h;unfold pmB at h
  cases hp:pAt e t.2 with
  | none=>
   rw[hp] at h
   cases h
   refine⟨⟨he.snoc hn,by simp,λ v x hx=>by rw[vc,hx]⟩,λ _=>⟨n,?_⟩⟩;rw[vc,hp];simp
  | some x=>
   rw[hp] at h;simp only at h
   split at h
   ·cases h;exact⟨⟨he,by omega,λ _ _ h=>h⟩,λ _=>⟨x,hp⟩⟩
   ·cases h
 ·rw[if_neg hv] at h
  split at h
  ·cases h;exact⟨⟨he,by omega,λ _ _ h=>h⟩,λ c=>absurd c hv⟩
  ·cases h
theorem zwl:∀ (ts:List zb8) (ns:List B8) (e e':zX),ts.length=ns.length->(∀ x∈ns,aM x)->ew e->zgz e ts ns=some e'->oG e e' ts.length/\∀ t∈ts,t.1=true->∃ x,pAt e' t.2=some x
 | [],_,e,e',_,_,he,h=>by
  rw[zgz] at h
  cases h
  exact⟨oG.refl he,by simp⟩
 | t::ts,[],_,_,hl,_,_,_=>by cases hl
 | t::ts,n::ns,e,e',hl,hn,he,h=>by
  rw[zgz] at h;simp only[List.headD_cons,List.tail_cons] at h
  cases h1:pmT e t n with
  | none=>rw[h1] at h;cases h
  | some e1=>
   rw[h1] at h;simp only at h;obtain⟨g1,b1⟩:=ya6 (hn n List.mem_cons_self) he h1;obtain⟨g2,b2⟩:=zwl ts ns e1 e' (by simpa using hl) (λ x hx=>hn x (List.mem_cons_of_mem _ hx)) g1.w h;refine⟨⟨g2.w,by have:=g1.len;have:=g2.len;simp;omega,λ v x hx=>g2.ext v x (g1.ext v x hx)⟩,λ u hu hv=>?_⟩;rcases List.mem_cons.1 hu with rfl | hu
   ·obtain⟨x,hx⟩:=b1 hv;exact⟨x,g2.ext _ _ hx⟩
   ·exact b2 u hu hv
variable {ps:P9}
theorem znn {a:yY}{t:Th}(ha:zn8 ps a)(ht:eE ps t)(he:ew e)(h:zV e a t=some e'):oG e e' 4/\∀ t∈a.ts,t.1=true->∃ x,pAt e' t.2=some x:=by
 unfold zV at h
 split at h
 ·rename_i c;have hp:a.p=t.1:=zU.1 c;have hl:a.ts.length=t.2.length:=by
   have h1:=ha.num;rw[hp,ht.num] at h1;exact (Option.some.inj h1).symm
  obtain⟨g,b⟩:=zwl a.ts t.2 e e' hl ht.w.ts he h;exact⟨⟨g.w,by have:=g.len;have:=ha.w.ft;omega,g.ext⟩,b⟩
 ·cases h
theorem zci {ps:P9}{K:List (Th × Nat)}(hK:∀ p∈K,eE ps p.1):∀ (pos:List yY) (e0 e:zX),(∀ a∈pos,zn8 ps a)->ew e0->e∈zQ K pos e0->oG e0 e (4*pos.length)/\∀ a∈pos,∀ t∈a.ts,t.1=true->∃ x,pAt e t.2=some x
 | [],e0,e,_,he,h=>by
  rw[zQ] at h;rw[List.mem_singleton.1 h];exact⟨oG.refl he,by simp⟩
 | a::r,e0,e,ha,he,h=>by
  rw[zQ] at h;obtain⟨p,hp,h⟩:=List.mem_flatMap.1 h
  cases hm:zV e0 a p.1 with
  | none=>rw[hm] at h;simp at h
  | some e1=>
   rw[hm] at h;simp only at h;obtain⟨g1,b1⟩:=znn (ha a List.mem_cons_self) (hK p hp) he hm;obtain⟨g2,b2⟩:=zci hK r e1 e (λ x hx=>ha x (List.mem_cons_of_mem _ hx)) g1.w h;refine⟨⟨g2.w,by have:=g1.len;have:=g2.len;simp;omega,λ v x hx=>g2.ext v x (g1.ext v x hx)⟩,λ x hx t ht hv=>?_⟩;rcases List.mem_cons.1 hx with rfl | hx
   ·obtain⟨y,hy⟩:=b1 t ht hv;exact⟨y,g2.ext _ _ hy⟩
   ·exact b2 x hx t ht hv
theorem zhl {A:yY}(hA:zn8 ps A)(he:ew e)(hb:∀ t∈A.ts,t.1=true->∃ x,pAt e t.2=some x):eE ps (zT e A):=by
 refine⟨⟨hA.w.pd,λ x hx=>?_⟩,?_,?_⟩
 ·obtain⟨t,ht,rfl⟩:=List.mem_map.1 hx;unfold cd
  split
  ·rename_i hv;obtain⟨x,h1⟩:=hb t ht hv;unfold dr;rw[h1];exact z63 he h1
  ·exact hA.w.ts t ht
 ·show zZ ps A.p=some (A.ts.map (cd e)).length
  rw[List.length_map];exact hA.num
 ·show (A.ts.map (cd e)).length<=4
  rw[List.length_map];exact hA.w.ft
theorem eE.ok {t:Th}(h:eE ps t):zbj t:=
 ⟨by have:=h.w.pd.le;show t.1.size<=_;omega,h.ft,λ x hx=>by have:=(h.w.ts x hx).le;omega,λ x hx=>(h.w.ts x hx).ne⟩
theorem zpp {ls:List (yX × Value)}{a:yY}:a∈zK ls↔∃ x∈ls,x.1.neg=false/\a=⟨x.1.pd,x.1.ts⟩:=by
 unfold zK zY;simp only[List.map_map,List.mem_map,List.mem_filter,Function.comp_def,zhp,yW]
 constructor
 ·rintro⟨x,⟨h1,h2⟩,rfl⟩;exact⟨x,h1,by simpa using h2,rfl⟩
 ·rintro⟨x,h1,h2,rfl⟩;exact⟨x,⟨h1,by simp[h2]⟩,rfl⟩
theorem zpn {ls:List (yX × Value)}{a:yY}:a∈xU ls↔∃ x∈ls,x.1.neg=true/\a=⟨x.1.pd,x.1.ts⟩:=by
 unfold xU zY;simp only[List.map_map,List.mem_map,List.mem_filter,Function.comp_def,zhp,yW]
 constructor
 ·rintro⟨x,⟨h1,h2⟩,rfl⟩;exact⟨x,h1,by simpa using h2,rfl⟩
 ·rintro⟨x,h1,h2,rfl⟩;exact⟨x,⟨h1,by simp[h2]⟩,rfl⟩
structure jZ (ps:P9)(r:PR):Prop where
 l3:r.bs.length<=3
 hd:zn8 ps (vJ r)
 ls:∀ x∈r.bs,zn8 ps ⟨x.1.pd,x.1.ts⟩
 mP:∀ t∈(vJ r).ts,t.1=true->∃ a∈zK r.bs,t∈a.ts
 mQ:∀ x∈xU r.bs,∀ t∈x.ts,t.1=true->∃ a∈zK r.bs,t∈a.ts
variable {r:PR}
theorem jZ.pos (h:jZ ps r):∀ a∈zK r.bs,zn8 ps a:=λ a ha=>by
 obtain⟨x,hx,_,rfl⟩:=zpp.1 ha;exact h.ls x hx
theorem jZ.neg (h:jZ ps r):∀ a∈xU r.bs,zn8 ps a:=λ a ha=>by
 obtain⟨x,hx,_,rfl⟩:=zpn.1 ha;exact h.ls x hx
theorem ya7 (ls:List (yX × Value)):(zK ls).length<=ls.length:=by
 unfold zK zY;rw[List.length_map,List.length_map];exact List.length_filter_le _ _
theorem zo7:ew []:=λ p hp=>by cases hp
structure ydz (ps:P9)(r:PR)(e:zX):Prop where
 w:ew e
 len:e.length<=12
 hd:eE ps (zT e (vJ r))
 neg:∀ x∈xU r.bs,eE ps (zT e x)
theorem jZ.rE (h:jZ ps r){K:List (Th × Nat)}(hK:∀ p∈K,eE ps p.1)(he:e∈zQ K (zK r.bs) []):ydz ps r e:=by
 obtain⟨g,b⟩:=zci hK (zK r.bs) [] e h.pos zo7 he;refine⟨g.w,?_,zhl h.hd g.w λ t ht hv=>?_,λ x hx=>zhl (h.neg x hx) g.w λ t ht hv=>?_⟩
 ·have h1:=g.len;have h2:=ya7 r.bs;have h3:=h.l3;rw[List.length_nil] at h1;omega
 ·obtain⟨a,ha,zu⟩:=h.mP t ht hv;exact b a ha t zu hv
 ·obtain⟨a,ha,zu⟩:=h.mQ x hx t ht hv;exact b a ha t zu hv
theorem zeq {rs:List PR}(h:∀ r∈rs,jZ ps r):eT rs (eE ps):=λ _ hK r hr=>
 have g:=h r hr
 ⟨⟨g.l3,λ x hx=>(g.ls x hx).w.ft,g.hd.w.ft,λ _ he x hx=>((g.rE hK he).neg x hx).ok,λ _ he=>(g.rE hK he).hd.ok,λ _ he=>(g.rE hK he).len⟩,λ _ he=>(g.rE hK he).hd⟩
theorem z9j {t:Th}(h:eE ps t):(zbv t.1 (xE t)).length<=1000000000:=by
 have h1:=zl2 (xE t) 0 (λ x hx=>by have:=(h.w.aS x hx).le;omega);have h2:(xE t).length=t.2.length:=by unfold xE;simp
 have h3:=h.ft;have h4:=h.w.pd.le;have h5:=zfg t.1;unfold zbv;rw[List.length_append,List.length_append];have h6:(if (xE t).length=0 then ([]:List UInt8) else [41]).length<=1:=by split <;> simp
 have h7:(xE t).length*1001<=4*1001:=Nat.mul_le_mul_right _ (by omega);omega
end
section
def yed (b:List yR):List yY:=(b.filter λ A=>!A.no).map pa
def yc6 (b:List yR):List yY:=(b.filter λ A=>A.no).map pa
structure lS (R:yN)(r:PR):Prop where
 eq:r.R=yO R
 bd:r.bs.map (·.1)=r.R.body
variable {r:PR} {R:yN}
theorem lS.pos (h:lS R r):zK r.bs=yed R.body:=by
 have e:r.bs.map (·.1)=R.body.map bl:=by rw[h.bd,h.eq];rfl
 unfold zK zY yed;have:∀ (ls:List (yX × Value)) (b:List yR),ls.map (·.1)=b.map bl->((ls.filter (yW false)).map zhp).map (·.1)=(b.filter λ A=>!A.no).map pa:=by
  intro ls
  induction ls with
  | nil=>intro b hb;cases b with
   | nil=>rfl
   | cons x r=>cases hb
  | cons x q ih=>
   intro b hb
   cases b with
   | nil=>cases hb
   | cons A b=>
    rw[List.map_cons,List.map_cons] at hb;injection hb with h1 h2
    have:=ih b h2;rw[List.filter_cons,List.filter_cons];have hn:x.1.neg=A.no:=(by rw[h1];rfl);unfold yW at this ⊢;rw[hn]
    cases A.no with
    | true=>simpa using this
    | false=>
     simp only[Bool.not_false,if_true,beq_self_eq_true,List.map_cons];rw[this]
     congr 1
     show (⟨x.1.pd,x.1.ts⟩:yY)=pa A
     rw[h1];rfl
 exact this _ _ e
theorem lS.neg {R:yN}{r:PR}(h:lS R r):xU r.bs=yc6 R.body:=by
 have e:r.bs.map (·.1)=R.body.map bl:=by rw[h.bd,h.eq];rfl
 unfold xU zY yc6;have:∀ (ls:List (yX × Value)) (b:List yR),ls.map (·.1)=b.map bl->((ls.filter (yW true)).map zhp).map (·.1)=(b.filter λ A=>A.no).map pa:=by
  intro ls
  induction ls with
  | nil=>intro b hb;cases b with
   | nil=>rfl
   | cons x r=>cases hb
  | cons x q ih=>
   intro b hb
   cases b with
   | nil=>cases hb
   | cons A b=>
    rw[List.map_cons,List.map_cons] at hb;injection hb with h1 h2
    have:=ih b h2;rw[List.filter_cons,List.filter_cons];have hn:x.1.neg=A.no:=(by rw[h1];rfl);unfold yW at this ⊢;rw[hn]
    cases A.no with
    | false=>simpa using this
    | true=>
     simp only[if_true,beq_self_eq_true,List.map_cons];rw[this]
     congr 1
     show (⟨x.1.pd,x.1.ts⟩:yY)=pa A
     rw[h1];rfl
 exact this _ _ e
theorem lS.hd (h:lS R r):vJ r=pa R.head:=by unfold vJ;rw[h.eq];rfl
end
section
def Ext (e x:zX):Prop:=∀ v y,pAt e v=some y->pAt x v=some y
def Dom (e:zX)(a:yY):Prop:=∀ t∈a.ts,t.1=true->∃ x,pAt e t.2=some x
theorem Ext.refl (e:zX):Ext e e:=λ _ _ h=>h
theorem Ext.trans {a b c:zX}(h:Ext a b)(k:Ext b c):Ext a c:=λ v y hv=>k v y (h v y hv)
theorem Ext.nil (e:zX):Ext [] e:=λ v y h=>by cases h
theorem Ext.cd {e x:zX}(h:Ext e x){t:zb8}(hd:t.1=true->∃ y,pAt e t.2=some y):cd x t=cd e t:=by
 unfold Go.Proofs.YtldkpahaocjdpaaGreat.cd
 split
 ·rename_i ht;obtain⟨y,hy⟩:=hd ht;unfold dr;rw[h _ _ hy,hy]
 ·rfl
variable {e x:zX}
theorem Ext.fill (h:Ext e x){a:yY}(hd:Dom e a):zT x a=zT e a:=
 Prod.ext rfl (List.map_congr_left λ t ht=>h.cd (hd t ht))
theorem Ext.IL (h:Ext e x){a:yY}(hd:Dom e a):Dom x a:=λ t ht hv=>let ⟨y,hy⟩:=hd t ht hv;⟨y,h _ _ hy⟩
variable {e':zX}
theorem z7e {t:zb8}{n:B8}(h:pmT e t n=some e'):Ext e e'/\cd e' t=n/\(t.1=true->∃ x,pAt e' t.2=some x):=by
 unfold pmT at h
 by_cases hv:t.1=true
 ·rw[if_pos hv] at h;unfold pmB at h
  cases hp:pAt e t.2 with
  | none=>
   rw[hp] at h
   cases h
   have h2:pAt (e++[(t.2,n)]) t.2=some n:=(by rw[vc,hp];simp);refine⟨λ v x hx=>by rw[vc,hx],?_,λ _=>⟨n,h2⟩⟩;unfold cd dr;rw[if_pos hv,h2];rfl
  | some x=>
   rw[hp] at h;simp only at h
   split at h
   ·rename_i hq
    cases h
    refine⟨Ext.refl _,?_,λ _=>⟨x,hp⟩⟩;unfold cd dr;rw[if_pos hv,hp];exact zU.1 hq
   ·cases h
 ·rw[if_neg hv] at h
  split at h
  ·rename_i hq
   cases h
   refine⟨Ext.refl _,?_,λ c=>absurd c hv⟩;unfold cd;rw[if_neg hv];exact zU.1 hq
  ·cases h
theorem ydb (hx:Ext e x){t:zb8}(hd:t.1=true->∃ y,pAt x t.2=some y):∃ e',pmT e t (cd x t)=some e'/\Ext e' x:=by
 unfold pmT cd
 by_cases hv:t.1=true
 ·obtain⟨y,hy⟩:=hd hv;rw[if_pos hv,if_pos hv];unfold dr pmB;rw[hy];simp only[Option.getD_some]
  cases hp:pAt e t.2 with
  | none=>
   refine⟨_,rfl,λ v z hz=>?_⟩;rw[vc] at hz
   cases hq:pAt e v with
   | some q=>rw[hq] at hz;cases hz;exact hx _ _ hq
   | none=>
    rw[hq] at hz;simp only at hz
    split at hz
    ·rename_i hc
     cases hz
     rw[<-zU.1 hc];exact hy
    ·cases hz
  | some q=>
   have:=hx _ _ hp;rw[hy] at this
   cases this
   exact⟨e,by simp,hx⟩
 ·rw[if_neg hv,if_neg hv];exact⟨e,by simp,hx⟩
theorem zr9:∀ (ts:List zb8) (ns:List B8) (e e':zX),ts.length=ns.length->zgz e ts ns=some e'->Ext e e'/\ts.map (cd e')=ns/\∀ t∈ts,t.1=true->∃ x,pAt e' t.2=some x
 | [],[],e,e',_,h=>by rw[zgz] at h;cases h;exact⟨Ext.refl _,rfl,by simp⟩
 | [],_::_,_,_,hl,_=>by cases hl
 | _::_,[],_,_,hl,_=>by cases hl
 | t::ts,n::ns,e,e',hl,h=>by
  rw[zgz] at h;simp only[List.headD_cons,List.tail_cons] at h
  cases h1:pmT e t n with
  | none=>rw[h1] at h;cases h
  | some e1=>
   rw[h1] at h;simp only at h;obtain⟨g1,b1,d1⟩:=z7e h1;obtain⟨g2,b2,d2⟩:=zr9 ts ns e1 e' (by simpa using hl) h;refine⟨g1.trans g2,?_,λ u hu hv=>?_⟩
   ·rw[List.map_cons,b2,g2.cd d1,b1]
   ·rcases List.mem_cons.1 hu with rfl | hu
    ·obtain⟨x,hx⟩:=d1 hv;exact⟨x,g2 _ _ hx⟩
    ·exact d2 u hu hv
theorem z2v {x:zX}:∀ (ts:List zb8) (e:zX),Ext e x->(∀ t∈ts,t.1=true->∃ y,pAt x t.2=some y)->∃ e',zgz e ts (ts.map (cd x))=some e'/\Ext e' x
 | [],e,h,_=>⟨e,rfl,h⟩
 | t::ts,e,h,hd=>by
  obtain⟨e1,h1,g1⟩:=ydb h (hd t List.mem_cons_self);obtain⟨e2,h2,g2⟩:=z2v ts e1 g1 (λ u hu=>hd u (List.mem_cons_of_mem _ hu));refine⟨e2,?_,g2⟩;rw[zgz];simp only[List.map_cons,List.headD_cons,List.tail_cons];rw[h1];exact h2
def ydn (a:yY)(t:Th):Prop:=a.p=t.1->a.ts.length=t.2.length
variable {ps:P9}
theorem zk4 {a:yY}{t:Th}(ha:zn8 ps a)(ht:eE ps t):ydn a t:=λ e=>by
 have h1:=ha.num;rw[e,ht.num] at h1;exact (Option.some.inj h1).symm
theorem zlu {a:yY}{t:Th}(hf:ydn a t)(h:zV e a t=some e'):Ext e e'/\zT e' a=t/\Dom e' a:=by
 unfold zV at h
 split at h
 ·rename_i c;have hp:a.p=t.1:=zU.1 c;obtain⟨g,b,d⟩:=zr9 a.ts t.2 e e' (hf hp) h;exact⟨g,Prod.ext hp b,d⟩
 ·cases h
theorem zlv (hx:Ext e x){a:yY}(hd:Dom x a):∃ e',zV e a (zT x a)=some e'/\Ext e' x:=by
 obtain⟨e',h1,h2⟩:=z2v a.ts e hx hd;refine⟨e',?_,h2⟩;unfold zV;rw[if_pos (by simp[zT])];exact h1
theorem vS {K:List (Th × Nat)}:∀ (pos:List yY) (e x:zX),(∀ a∈pos,∀ p∈K,ydn a p.1)->x∈zQ K pos e->Ext e x/\∀ a∈pos,Dom x a/\∃ n,(zT x a,n)∈K
 | [],e,x,_,h=>by
  rw[zQ] at h;rw[List.mem_singleton.1 h];exact⟨Ext.refl _,by simp⟩
 | a::r,e,x,hf,h=>by
  rw[zQ] at h;obtain⟨p,hp,h⟩:=List.mem_flatMap.1 h
  cases hm:zV e a p.1 with
  | none=>rw[hm] at h;simp at h
  | some e1=>
   rw[hm] at h;simp only at h;obtain⟨g1,b1,d1⟩:=zlu (hf a List.mem_cons_self p hp) hm;obtain⟨g2,b2⟩:=vS r e1 x (λ y hy=>hf y (List.mem_cons_of_mem _ hy)) h;refine⟨g1.trans g2,λ y hy=>?_⟩;rcases List.mem_cons.1 hy with rfl | hy
   ·exact⟨g2.IL d1,p.2,by rw[g2.fill d1,b1];exact hp⟩
   ·exact b2 y hy
theorem zg2 {K:List (Th × Nat)}{x:zX}:∀ (pos:List yY) (e:zX),Ext e x->(∀ a∈pos,Dom x a/\∃ n,(zT x a,n)∈K)->∃ e'∈zQ K pos e,Ext e' x
 | [],e,h,_=>⟨e,by rw[zQ];exact List.mem_singleton.2 rfl,h⟩
 | a::r,e,h,hd=>by
  obtain⟨d,n,hn⟩:=hd a List.mem_cons_self;obtain⟨e1,h1,g1⟩:=zlv h d;obtain⟨e2,h2,g2⟩:=zg2 r e1 g1 (λ y hy=>hd y (List.mem_cons_of_mem _ hy));refine⟨e2,?_,g2⟩;rw[zQ];refine List.mem_flatMap.2 ⟨_,hn,?_⟩;rw[h1];exact h2
def jY (N:List (Th × Nat))(pos:List yY)(e:zX):List Nat:=pos.map λ a=>(z7 N (zT e a)).getD 0
def zar (N:List (Th × Nat))(r:PR)(t:Th):List (List Nat):=match zV [] (vJ r) t with
 | none=>[]
 | some s=>(qO N (xU r.bs) (zK r.bs) s).map (jY N (zK r.bs))
variable {N:List (Th × Nat)}
theorem zsk {pos:List yY}(h:Ext e x)(hd:∀ a∈pos,Dom e a):jY N pos x=jY N pos e:=
 List.map_congr_left λ a ha=>by rw[h.fill (hd a ha)]
theorem zm8 {K:List (Th × Nat)}{neg:List yY}(h:Ext e x)(hd:∀ a∈neg,Dom e a):jV K neg x=jV K neg e:=by
 unfold jV;have:∀ l:List yY,(∀ a∈l,a∈neg)->(l.any λ a=>(z7 K (zT x a)).isSome)=l.any λ a=>(z7 K (zT e a)).isSome:=by
  intro l
  induction l with
  | nil=>intro _;rfl
  | cons a r ih=>intro hl;rw[List.any_cons,List.any_cons,ih (λ b hb=>hl b (List.mem_cons_of_mem _ hb)),h.fill (hd a (hl a List.mem_cons_self))]
 exact this neg (λ _ h=>h)
variable {r:PR}
theorem jZ.iX (hg:jZ ps r)(h:∀ a∈zK r.bs,Dom e a):∀ a∈xU r.bs,Dom e a:=λ a ha t ht hv=>by
 obtain⟨b,hb,Dr⟩:=hg.mQ a ha t ht hv;exact h b hb t Dr hv
theorem jZ.sE (hg:jZ ps r)(h:∀ a∈zK r.bs,Dom e a):Dom e (vJ r):=λ t ht hv=>by
 obtain⟨b,hb,Dr⟩:=hg.mP t ht hv;exact h b hb t Dr hv
theorem zi1 (hN:∀ p∈N,eE ps p.1)(hg:jZ ps r){t:Th}(ht:eE ps t)(row:List Nat):row∈zar N r t↔∃ e∈qO N (xU r.bs) (zK r.bs) [],zT e (vJ r)=t/\jY N (zK r.bs) e=row:=by
 have kG:∀ a∈zK r.bs,∀ p∈N,ydn a p.1:=λ a ha p hp=>zk4 (hg.pos a ha) (hN p hp)
 constructor
 ·intro h;unfold zar at h
  cases hs:zV [] (vJ r) t with
  | none=>rw[hs] at h;cases h
  | some s=>
   rw[hs] at h;obtain⟨x,hx,rfl⟩:=List.mem_map.1 h;obtain⟨hx,ui⟩:=List.mem_filter.1 hx;obtain⟨-,b1,d1⟩:=zlu (zk4 hg.hd ht) hs;obtain⟨g2,b2⟩:=vS _ _ _ kG hx;obtain⟨e,he,g3⟩:=zg2 (zK r.bs) [] (Ext.nil x) b2;have d3:∀ a∈zK r.bs,Dom e a:=λ a ha=>((vS _ _ _ kG he).2 a ha).1
   refine⟨e,List.mem_filter.2 ⟨he,?_⟩,?_,(zsk g3 d3).symm⟩
   ·rw[<-zm8 g3 (hg.iX d3)];exact ui
   ·rw[<-g3.fill (hg.sE d3),g2.fill d1,b1]
 ·rintro⟨e,he,hh,rfl⟩;obtain⟨he,ui⟩:=List.mem_filter.1 he;obtain⟨-,b2⟩:=vS _ _ _ kG he;have d2:∀ a∈zK r.bs,Dom e a:=λ a ha=>(b2 a ha).1
  obtain⟨s,hs,gs⟩:=zlv (Ext.nil e) (hg.sE d2);rw[hh] at hs;obtain⟨x,hx,g3⟩:=zg2 (zK r.bs) s gs b2;have d3:∀ a∈zK r.bs,Dom x a:=λ a ha=>((vS _ _ _ kG hx).2 a ha).1
  unfold zar;rw[hs];refine List.mem_map.2 ⟨x,List.mem_filter.2 ⟨hx,?_⟩,(zsk g3 d3).symm⟩;rw[<-zm8 g3 (hg.iX d3)];exact ui
end
end Go.Proofs.YtldkpahaocjdpaaGreat
