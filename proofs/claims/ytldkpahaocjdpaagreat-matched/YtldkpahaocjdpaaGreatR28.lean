/-
  Plain: what a rule says, in the reference's words and in the program's.
-/
import Derived.Test.YtldkpahaocjdpaaGreatR27
import Derived.Deep.Upon
import Derived.Calls
set_option maxHeartbeats 16000000
set_option maxRecDepth 1000000
namespace Go.Proofs.YtldkpahaocjdpaaGreat
section
theorem ER (v n u:B8):∀ e:zY,pAt (e++[(v,n)]) u=match pAt e u with | some x=>some x | none=>if v.toList==u.toList then some n else none
 | []=>by rw[List.nil_append,pAt,pAt];simp[pAt]
 | x::r=>by
  rw[List.cons_append,pAt,pAt]
  by_cases c:(x.1.toList==u.toList)=true
  ·rw[if_pos c,if_pos c]
  ·rw[if_neg c,if_neg c];exact ER v n u r
structure pX (e e':zY)(k:Nat):Prop where
 w:eV e'
 len:e'.length<=e.length+k
 ext:∀ v x,pAt e v=some x->pAt e' v=some x
variable {e:zY}
theorem pX.refl (h:eV e):pX e e 0:=⟨h,by omega,λ _ _ h=>h⟩
variable {e':zY}
theorem yck {t:zcb}{n:B8}(hn:cJ n)(he:eV e)(h:pmT e t n=some e'):pX e e' 1/\(t.1=true->∃ x,pAt e' t.2=some x):=by
 unfold pmT at h
 by_cases hv:t.1=true
 ·rw[if_pos hv] at h;unfold pmB at h
  cases hp:pAt e t.2 with
  | none=>
   rw[hp] at h
   cases h
   refine⟨⟨he.snoc hn,by simp,λ v x hx=>by rw[ER,hx]⟩,λ _=>⟨n,?_⟩⟩;rw[ER,hp];simp
  | some x=>
   rw[hp] at h;simp only at h
   split at h
   ·cases h;exact⟨⟨he,by omega,λ _ _ h=>h⟩,λ _=>⟨x,hp⟩⟩
   ·cases h
 ·rw[if_neg hv] at h
  split at h
  ·cases h;exact⟨⟨he,by omega,λ _ _ h=>h⟩,λ c=>absurd c hv⟩
  ·cases h
theorem zx8:∀ (ts:List zcb) (ns:List B8) (e e':zY),ts.length=ns.length->(∀ x∈ns,cJ x)->eV e->zen e ts ns=some e'->pX e e' ts.length/\∀ t∈ts,t.1=true->∃ x,pAt e' t.2=some x
 | [],_,e,e',_,_,he,h=>by
  rw[zen] at h
  cases h
  exact⟨pX.refl he,by simp⟩
 | t::ts,[],_,_,hl,_,_,_=>by cases hl
 | t::ts,n::ns,e,e',hl,hn,he,h=>by
  rw[zen] at h;simp only[List.headD_cons,List.tail_cons] at h
  cases h1:pmT e t n with
  | none=>rw[h1] at h;cases h
  | some e1=>
   rw[h1] at h;simp only at h;obtain⟨g1,b1⟩:=yck (hn n List.mem_cons_self) he h1;obtain⟨g2,b2⟩:=zx8 ts ns e1 e' (by simpa using hl) (λ x hx=>hn x (List.mem_cons_of_mem _ hx)) g1.w h;refine⟨⟨g2.w,by have:=g1.len;have:=g2.len;simp;omega,λ v x hx=>g2.ext v x (g1.ext v x hx)⟩,λ u hu hv=>?_⟩;rcases List.mem_cons.1 hu with rfl | hu
   ·obtain⟨x,hx⟩:=b1 hv;exact⟨x,g2.ext _ _ hx⟩
   ·exact b2 u hu hv
variable {ps:P9}
theorem zo9 {a:xH}{t:Th}(ha:zpw ps a)(ht:eE ps t)(he:eV e)(h:yC e a t=some e'):pX e e' 4/\∀ t∈a.ts,t.1=true->∃ x,pAt e' t.2=some x:=by
 unfold yC at h
 split at h
 ·rename_i c;have hp:a.p=t.1:=yB.1 c;have hl:a.ts.length=t.2.length:=by
   have h1:=ha.num;rw[hp,ht.num] at h1;exact (Option.some.inj h1).symm
  obtain⟨g,b⟩:=zx8 a.ts t.2 e e' hl ht.w.ts he h;exact⟨⟨g.w,by have:=g.len;have:=ha.w.ft;omega,g.ext⟩,b⟩
 ·cases h
theorem zcn {ps:P9}{K:List (Th × Nat)}(hK:∀ p∈K,eE ps p.1):∀ (pos:List xH) (e0 e:zY),(∀ a∈pos,zpw ps a)->eV e0->e∈zR K pos e0->pX e0 e (4*pos.length)/\∀ a∈pos,∀ t∈a.ts,t.1=true->∃ x,pAt e t.2=some x
 | [],e0,e,_,he,h=>by
  rw[zR] at h;rw[List.mem_singleton.1 h];exact⟨pX.refl he,by simp⟩
 | a::r,e0,e,ha,he,h=>by
  rw[zR] at h;obtain⟨p,hp,h⟩:=List.mem_flatMap.1 h
  cases hm:yC e0 a p.1 with
  | none=>rw[hm] at h;simp at h
  | some e1=>
   rw[hm] at h;simp only at h;obtain⟨g1,b1⟩:=zo9 (ha a List.mem_cons_self) (hK p hp) he hm;obtain⟨g2,b2⟩:=zcn hK r e1 e (λ x hx=>ha x (List.mem_cons_of_mem _ hx)) g1.w h;refine⟨⟨g2.w,by have:=g1.len;have:=g2.len;simp;omega,λ v x hx=>g2.ext v x (g1.ext v x hx)⟩,λ x hx t ht hv=>?_⟩;rcases List.mem_cons.1 hx with rfl | hx
   ·obtain⟨y,hy⟩:=b1 t ht hv;exact⟨y,g2.ext _ _ hy⟩
   ·exact b2 x hx t ht hv
theorem zhv {A:xH}(hA:zpw ps A)(he:eV e)(hb:∀ t∈A.ts,t.1=true->∃ x,pAt e t.2=some x):eE ps (zZ e A):=by
 refine⟨⟨hA.w.pd,λ x hx=>?_⟩,?_,?_⟩
 ·obtain⟨t,ht,rfl⟩:=List.mem_map.1 hx;unfold cd
  split
  ·rename_i hv;obtain⟨x,h1⟩:=hb t ht hv;unfold dR;rw[h1];exact z8h he h1
  ·exact hA.w.ts t ht
 ·show zV ps A.p=some (A.ts.map (cd e)).length
  rw[List.length_map];exact hA.num
 ·show (A.ts.map (cd e)).length<=4
  rw[List.length_map];exact hA.w.ft
theorem eE.ok {t:Th}(h:eE ps t):zbl t:=
 ⟨by have:=h.w.pd.le;show t.1.size<=_;omega,h.ft,λ x hx=>by have:=(h.w.ts x hx).le;omega,λ x hx=>(h.w.ts x hx).ne⟩
theorem zqv {ls:List (yR × Value)}{a:xH}:a∈zM ls↔∃ x∈ls,x.1.neg=false/\a=⟨x.1.pd,x.1.ts⟩:=by
 unfold zM zW;simp only[List.map_map,List.mem_map,List.mem_filter,Function.comp_def,zhz,xB]
 constructor
 ·rintro⟨x,⟨h1,h2⟩,rfl⟩;exact⟨x,h1,by simpa using h2,rfl⟩
 ·rintro⟨x,h1,h2,rfl⟩;exact⟨x,⟨h1,by simp[h2]⟩,rfl⟩
theorem zvl {ls:List (yR × Value)}{a:xH}:a∈vW ls↔∃ x∈ls,x.1.neg=true/\a=⟨x.1.pd,x.1.ts⟩:=by
 unfold vW zW;simp only[List.map_map,List.mem_map,List.mem_filter,Function.comp_def,zhz,xB]
 constructor
 ·rintro⟨x,⟨h1,h2⟩,rfl⟩;exact⟨x,h1,by simpa using h2,rfl⟩
 ·rintro⟨x,h1,h2,rfl⟩;exact⟨x,⟨h1,by simp[h2]⟩,rfl⟩
structure j2 (ps:P9)(r:PR):Prop where
 l3:r.bs.length<=3
 hd:zpw ps (jC r)
 ls:∀ x∈r.bs,zpw ps ⟨x.1.pd,x.1.ts⟩
 mP:∀ t∈(jC r).ts,t.1=true->∃ a∈zM r.bs,t∈a.ts
 mQ:∀ x∈vW r.bs,∀ t∈x.ts,t.1=true->∃ a∈zM r.bs,t∈a.ts
variable {r:PR}
theorem j2.pos (h:j2 ps r):∀ a∈zM r.bs,zpw ps a:=λ a ha=>by
 obtain⟨x,hx,_,rfl⟩:=zqv.1 ha;exact h.ls x hx
theorem j2.neg (h:j2 ps r):∀ a∈vW r.bs,zpw ps a:=λ a ha=>by
 obtain⟨x,hx,_,rfl⟩:=zvl.1 ha;exact h.ls x hx
theorem ycl (ls:List (yR × Value)):(zM ls).length<=ls.length:=by
 unfold zM zW;rw[List.length_map,List.length_map];exact List.length_filter_le _ _
theorem zp9:eV []:=λ p hp=>by cases hp
structure yfj (ps:P9)(r:PR)(e:zY):Prop where
 w:eV e
 len:e.length<=12
 hd:eE ps (zZ e (jC r))
 neg:∀ x∈vW r.bs,eE ps (zZ e x)
theorem j2.rE (h:j2 ps r){K:List (Th × Nat)}(hK:∀ p∈K,eE ps p.1)(he:e∈zR K (zM r.bs) []):yfj ps r e:=by
 obtain⟨g,b⟩:=zcn hK (zM r.bs) [] e h.pos zp9 he;refine⟨g.w,?_,zhv h.hd g.w λ t ht hv=>?_,λ x hx=>zhv (h.neg x hx) g.w λ t ht hv=>?_⟩
 ·have h1:=g.len;have h2:=ycl r.bs;have h3:=h.l3;rw[List.length_nil] at h1;omega
 ·obtain⟨a,ha,zu⟩:=h.mP t ht hv;exact b a ha t zu hv
 ·obtain⟨a,ha,zu⟩:=h.mQ x hx t ht hv;exact b a ha t zu hv
theorem ze0 {rs:List PR}(h:∀ r∈rs,j2 ps r):fI rs (eE ps):=λ _ hK r hr=>
 have g:=h r hr
 ⟨⟨g.l3,λ x hx=>(g.ls x hx).w.ft,g.hd.w.ft,λ _ he x hx=>((g.rE hK he).neg x hx).ok,λ _ he=>(g.rE hK he).hd.ok,λ _ he=>(g.rE hK he).len⟩,λ _ he=>(g.rE hK he).hd⟩
theorem yaw {t:Th}(h:eE ps t):(j3 t.1 (xF t)).length<=1000000000:=by
 have h1:=zml (xF t) 0 (λ x hx=>by have:=(h.w.aS x hx).le;omega);have h2:(xF t).length=t.2.length:=by unfold xF;simp
 have h3:=h.ft;have h4:=h.w.pd.le;have h5:=zfo t.1;unfold j3;rw[List.length_append,List.length_append];have h6:(if (xF t).length=0 then ([]:List UInt8) else [41]).length<=1:=by split <;> simp
 have h7:(xF t).length*1001<=4*1001:=Nat.mul_le_mul_right _ (by omega);omega
end
section
def yfr (b:List yY):List xH:=(b.filter λ A=>!A.no).map pa
def yek (b:List yY):List xH:=(b.filter λ A=>A.no).map pa
structure mu (R:yU)(r:PR):Prop where
 eq:r.R=yV R
 bd:r.bs.map (·.1)=r.R.body
variable {r:PR} {R:yU}
theorem mu.pos (h:mu R r):zM r.bs=yfr R.body:=by
 have e:r.bs.map (·.1)=R.body.map bl:=by rw[h.bd,h.eq];rfl
 unfold zM zW yfr;have:∀ (ls:List (yR × Value)) (b:List yY),ls.map (·.1)=b.map bl->((ls.filter (xB false)).map zhz).map (·.1)=(b.filter λ A=>!A.no).map pa:=by
  intro ls
  induction ls with
  | nil=>intro b hb;cases b with
   | nil=>rfl
   | cons x r=>cases hb
  | cons x q ih=>
   intro b hb
   cases b with
   | nil=>cases hb
   | cons A b=>
    rw[List.map_cons,List.map_cons] at hb;injection hb with h1 h2
    have:=ih b h2;rw[List.filter_cons,List.filter_cons];have hn:x.1.neg=A.no:=(by rw[h1];rfl);unfold xB at this ⊢;rw[hn]
    cases A.no with
    | true=>simpa using this
    | false=>
     simp only[Bool.not_false,if_true,beq_self_eq_true,List.map_cons];rw[this]
     congr 1
     show (⟨x.1.pd,x.1.ts⟩:xH)=pa A
     rw[h1];rfl
 exact this _ _ e
theorem mu.neg {R:yU}{r:PR}(h:mu R r):vW r.bs=yek R.body:=by
 have e:r.bs.map (·.1)=R.body.map bl:=by rw[h.bd,h.eq];rfl
 unfold vW zW yek;have:∀ (ls:List (yR × Value)) (b:List yY),ls.map (·.1)=b.map bl->((ls.filter (xB true)).map zhz).map (·.1)=(b.filter λ A=>A.no).map pa:=by
  intro ls
  induction ls with
  | nil=>intro b hb;cases b with
   | nil=>rfl
   | cons x r=>cases hb
  | cons x q ih=>
   intro b hb
   cases b with
   | nil=>cases hb
   | cons A b=>
    rw[List.map_cons,List.map_cons] at hb;injection hb with h1 h2
    have:=ih b h2;rw[List.filter_cons,List.filter_cons];have hn:x.1.neg=A.no:=(by rw[h1];rfl);unfold xB at this ⊢;rw[hn]
    cases A.no with
    | false=>simpa using this
    | true=>
     simp only[if_true,beq_self_eq_true,List.map_cons];rw[this]
     congr 1
     show (⟨x.1.pd,x.1.ts⟩:xH)=pa A
     rw[h1];rfl
 exact this _ _ e
theorem mu.hd (h:mu R r):jC r=pa R.head:=by unfold jC;rw[h.eq];rfl
end
section
open Go.RowKit
variable {w:W8}
theorem z43 {base:Nat}{e:TypeId}{size g n cap:Nat}{xs:V8}(h:w.ownsRow base e size (.slice (some ⟨g,0,none⟩) n cap) n xs):∀ j u,xs[j]?=some u->w.cell? ((⟨g,0,none⟩:Addr).add j)=some u:=by
 intro j u hj;have hl:xs.length=n*size:=h.1;have bP:j<xs.length:=(List.getElem?_eq_some_iff.1 hj).1;rcases h.2 with⟨h1,_⟩ | ⟨g',oI,cur,hv,hb,hg,dG,dx,eZ,ht⟩
 ·cases h1
 ·injection hv with h1 h2 h3
  injection h1 with h1
  injection h1 with h1
  subst h1;have:=h.cellAt j (by omega);unfold Addr.add
  split <;> simp_all
theorem zip {P:Program}{ops:Array Oper}{rest:List Oper}{o:Oper}{a:Act}{Q:Exit->Act->W8->Prop}(CA:o.guard=none)(s x:Operand)(t:TypeId)(ho:o.op=.call { callee:=.builtin .append,args:=#[s,x],argTypes:=#[t,t] })(v xv:Value)(hs:a.eval s=v)(hx:a.eval x=xv)(hr:∀ ty,(Builtin.append_ #[t,t] ty #[v,xv]).run P w=.ok v w)(h:wpList P ops Q rest (a.put o.dst v) w):wpList P ops Q (o::rest) a w:=
 wpList_plain CA λ _ hK=>by
  unfold Oper.wp execOp;simp only[ho,resolve,invoke,builtin,Sem.run_bind,Sem.run_pure,Result.andThen_ok,List.map_toArray,List.map_cons,List.map_nil,hs,hx,hr];exact hK _ _ h
end
section
structure z6y (ps:P9)(rs:List yU)(rp:List PR):Prop where
 fwd:∀ R∈rs,∃ r∈rp,mu R r
 bwd:∀ r∈rp,∃ R∈rs,mu R r
 dh:∀ r∈rp,j2 ps r
end
section
def zi5:List Nat->List Nat->Bool
 | [],[]=>false
 | [],_::_=>true
 | _::_,[]=>false
 | a::x,b::y=>if a<b then true else if b<a then false else zi5 x y
theorem Ng:∀ x:List Nat,zi5 x x=false
 | []=>rfl
 | a::x=>by rw[zi5,if_neg (Nat.lt_irrefl a),if_neg (Nat.lt_irrefl a)];exact Ng x
theorem zi6:∀ {x y z:List Nat},zi5 x y=true->zi5 y z=true->zi5 x z=true
 | [],[],_,h,_=>by cases h
 | [],_::_,[],_,h=>by cases h
 | [],_::_,_::_,_,_=>rfl
 | _::_,[],_,h,_=>by cases h
 | _::_,_::_,[],_,h=>by cases h
 | a::x,b::y,c::z,h,k=>by
  rw[zi5] at h k ⊢
  by_cases h1:a<b
  ·by_cases h2:b<c
   ·rw[if_pos (by omega)]
   ·rw[if_neg h2] at k
    by_cases h3:c<b
    ·rw[if_pos h3] at k;cases k
    ·rw[if_pos (by omega)]
  ·rw[if_neg h1] at h
   by_cases h4:b<a
   ·rw[if_pos h4] at h;cases h
   ·rw[if_neg h4] at h;have:a=b:=by omega
    subst this
    by_cases h2:a<c
    ·rw[if_pos h2]
    ·rw[if_neg h2] at k ⊢
     by_cases h3:c<a
     ·rw[if_pos h3] at k;cases k
     ·rw[if_neg h3] at k ⊢;exact zi6 h k
theorem z3f:∀ {x y:List Nat},zi5 x y=false->zi5 y x=false->x=y
 | [],[],_,_=>rfl
 | [],_::_,h,_=>by cases h
 | _::_,[],_,h=>by cases h
 | a::x,b::y,h,k=>by
  rw[zi5] at h k
  by_cases h1:a<b
  ·rw[if_pos h1] at h;cases h
  ·by_cases h2:b<a
   ·rw[if_pos h2] at k;cases k
   ·rw[if_neg h1,if_neg h2] at h;rw[if_neg h2,if_neg h1] at k;rw[z3f h k,show a=b by omega]
def zom (x y:Nat):Int:=if x<y then -1 else if y<x then 1 else 0
def zqk:List Nat->List Nat->Int
 | [],[]=>0
 | [],_::_=>-1
 | _::_,[]=>1
 | a::x,b::y=>if zom a b=0 then zqk x y else zom a b
theorem zxq:∀ x y:List Nat,zqk x y<0↔zi5 x y=true
 | [],[]=>by simp[zqk,zi5]
 | [],_::_=>by simp[zqk,zi5]
 | _::_,[]=>by simp[zqk,zi5]
 | a::x,b::y=>by
  have ih:=zxq x y;rw[zqk,zi5];unfold zom
  by_cases h1:a<b
  ·simp[h1]
  ·by_cases h2:b<a
   ·simp[h1,h2]
   ·simp only[if_neg h1,if_neg h2,if_true];exact ih
end
section
def Ext (e x:zY):Prop:=∀ v y,pAt e v=some y->pAt x v=some y
def Dom (e:zY)(a:xH):Prop:=∀ t∈a.ts,t.1=true->∃ x,pAt e t.2=some x
theorem Ext.refl (e:zY):Ext e e:=λ _ _ h=>h
theorem Ext.trans {a b c:zY}(h:Ext a b)(k:Ext b c):Ext a c:=λ v y hv=>k v y (h v y hv)
theorem Ext.nil (e:zY):Ext [] e:=λ v y h=>by cases h
theorem Ext.cd {e x:zY}(h:Ext e x){t:zcb}(hd:t.1=true->∃ y,pAt e t.2=some y):cd x t=cd e t:=by
 unfold Go.Proofs.YtldkpahaocjdpaaGreat.cd
 split
 ·rename_i ht;obtain⟨y,hy⟩:=hd ht;unfold dR;rw[h _ _ hy,hy]
 ·rfl
variable {e x:zY}
theorem Ext.fill (h:Ext e x){a:xH}(hd:Dom e a):zZ x a=zZ e a:=
 Prod.ext rfl (List.map_congr_left λ t ht=>h.cd (hd t ht))
theorem Ext.IL (h:Ext e x){a:xH}(hd:Dom e a):Dom x a:=λ t ht hv=>let ⟨y,hy⟩:=hd t ht hv;⟨y,h _ _ hy⟩
variable {e':zY}
theorem z8q {t:zcb}{n:B8}(h:pmT e t n=some e'):Ext e e'/\cd e' t=n/\(t.1=true->∃ x,pAt e' t.2=some x):=by
 unfold pmT at h
 by_cases hv:t.1=true
 ·rw[if_pos hv] at h;unfold pmB at h
  cases hp:pAt e t.2 with
  | none=>
   rw[hp] at h
   cases h
   have h2:pAt (e++[(t.2,n)]) t.2=some n:=(by rw[ER,hp];simp);refine⟨λ v x hx=>by rw[ER,hx],?_,λ _=>⟨n,h2⟩⟩;unfold cd dR;rw[if_pos hv,h2];rfl
  | some x=>
   rw[hp] at h;simp only at h
   split at h
   ·rename_i hq
    cases h
    refine⟨Ext.refl _,?_,λ _=>⟨x,hp⟩⟩;unfold cd dR;rw[if_pos hv,hp];exact yB.1 hq
   ·cases h
 ·rw[if_neg hv] at h
  split at h
  ·rename_i hq
   cases h
   refine⟨Ext.refl _,?_,λ c=>absurd c hv⟩;unfold cd;rw[if_neg hv];exact yB.1 hq
  ·cases h
theorem yep (hx:Ext e x){t:zcb}(hd:t.1=true->∃ y,pAt x t.2=some y):∃ e',pmT e t (cd x t)=some e'/\Ext e' x:=by
 unfold pmT cd
 by_cases hv:t.1=true
 ·obtain⟨y,hy⟩:=hd hv;rw[if_pos hv,if_pos hv];unfold dR pmB;rw[hy];simp only[Option.getD_some]
  cases hp:pAt e t.2 with
  | none=>
   refine⟨_,rfl,λ v z hz=>?_⟩;rw[ER] at hz
   cases hq:pAt e v with
   | some q=>rw[hq] at hz;cases hz;exact hx _ _ hq
   | none=>
    rw[hq] at hz;simp only at hz
    split at hz
    ·rename_i hc
     cases hz
     rw[<-yB.1 hc];exact hy
    ·cases hz
  | some q=>
   have:=hx _ _ hp;rw[hy] at this
   cases this
   exact⟨e,by simp,hx⟩
 ·rw[if_neg hv,if_neg hv];exact⟨e,by simp,hx⟩
theorem zti:∀ (ts:List zcb) (ns:List B8) (e e':zY),ts.length=ns.length->zen e ts ns=some e'->Ext e e'/\ts.map (cd e')=ns/\∀ t∈ts,t.1=true->∃ x,pAt e' t.2=some x
 | [],[],e,e',_,h=>by rw[zen] at h;cases h;exact⟨Ext.refl _,rfl,by simp⟩
 | [],_::_,_,_,hl,_=>by cases hl
 | _::_,[],_,_,hl,_=>by cases hl
 | t::ts,n::ns,e,e',hl,h=>by
  rw[zen] at h;simp only[List.headD_cons,List.tail_cons] at h
  cases h1:pmT e t n with
  | none=>rw[h1] at h;cases h
  | some e1=>
   rw[h1] at h;simp only at h;obtain⟨g1,b1,d1⟩:=z8q h1;obtain⟨g2,b2,d2⟩:=zti ts ns e1 e' (by simpa using hl) h;refine⟨g1.trans g2,?_,λ u hu hv=>?_⟩
   ·rw[List.map_cons,b2,g2.cd d1,b1]
   ·rcases List.mem_cons.1 hu with rfl | hu
    ·obtain⟨x,hx⟩:=d1 hv;exact⟨x,g2 _ _ hx⟩
    ·exact d2 u hu hv
theorem z4m {x:zY}:∀ (ts:List zcb) (e:zY),Ext e x->(∀ t∈ts,t.1=true->∃ y,pAt x t.2=some y)->∃ e',zen e ts (ts.map (cd x))=some e'/\Ext e' x
 | [],e,h,_=>⟨e,rfl,h⟩
 | t::ts,e,h,hd=>by
  obtain⟨e1,h1,g1⟩:=yep h (hd t List.mem_cons_self);obtain⟨e2,h2,g2⟩:=z4m ts e1 g1 (λ u hu=>hd u (List.mem_cons_of_mem _ hu));refine⟨e2,?_,g2⟩;rw[zen];simp only[List.map_cons,List.headD_cons,List.tail_cons];rw[h1];exact h2
def ye1 (a:xH)(t:Th):Prop:=a.p=t.1->a.ts.length=t.2.length
variable {ps:P9}
theorem zli {a:xH}{t:Th}(ha:zpw ps a)(ht:eE ps t):ye1 a t:=λ e=>by
 have h1:=ha.num;rw[e,ht.num] at h1;exact (Option.some.inj h1).symm
theorem zmc {a:xH}{t:Th}(hf:ye1 a t)(h:yC e a t=some e'):Ext e e'/\zZ e' a=t/\Dom e' a:=by
 unfold yC at h
 split at h
 ·rename_i c;have hp:a.p=t.1:=yB.1 c;obtain⟨g,b,d⟩:=zti a.ts t.2 e e' (hf hp) h;exact⟨g,Prod.ext hp b,d⟩
 ·cases h
theorem zmd (hx:Ext e x){a:xH}(hd:Dom x a):∃ e',yC e a (zZ x a)=some e'/\Ext e' x:=by
 obtain⟨e',h1,h2⟩:=z4m a.ts e hx hd;refine⟨e',?_,h2⟩;unfold yC;rw[if_pos (by simp[zZ])];exact h1
theorem vS {K:List (Th × Nat)}:∀ (pos:List xH) (e x:zY),(∀ a∈pos,∀ p∈K,ye1 a p.1)->x∈zR K pos e->Ext e x/\∀ a∈pos,Dom x a/\∃ n,(zZ x a,n)∈K
 | [],e,x,_,h=>by
  rw[zR] at h;rw[List.mem_singleton.1 h];exact⟨Ext.refl _,by simp⟩
 | a::r,e,x,hf,h=>by
  rw[zR] at h;obtain⟨p,hp,h⟩:=List.mem_flatMap.1 h
  cases hm:yC e a p.1 with
  | none=>rw[hm] at h;simp at h
  | some e1=>
   rw[hm] at h;simp only at h;obtain⟨g1,b1,d1⟩:=zmc (hf a List.mem_cons_self p hp) hm;obtain⟨g2,b2⟩:=vS r e1 x (λ y hy=>hf y (List.mem_cons_of_mem _ hy)) h;refine⟨g1.trans g2,λ y hy=>?_⟩;rcases List.mem_cons.1 hy with rfl | hy
   ·exact⟨g2.IL d1,p.2,by rw[g2.fill d1,b1];exact hp⟩
   ·exact b2 y hy
theorem zhb {K:List (Th × Nat)}{x:zY}:∀ (pos:List xH) (e:zY),Ext e x->(∀ a∈pos,Dom x a/\∃ n,(zZ x a,n)∈K)->∃ e'∈zR K pos e,Ext e' x
 | [],e,h,_=>⟨e,by rw[zR];exact List.mem_singleton.2 rfl,h⟩
 | a::r,e,h,hd=>by
  obtain⟨d,n,hn⟩:=hd a List.mem_cons_self;obtain⟨e1,h1,g1⟩:=zmd h d;obtain⟨e2,h2,g2⟩:=zhb r e1 g1 (λ y hy=>hd y (List.mem_cons_of_mem _ hy));refine⟨e2,?_,g2⟩;rw[zR];refine List.mem_flatMap.2 ⟨_,hn,?_⟩;rw[h1];exact h2
def j0 (N:List (Th × Nat))(pos:List xH)(e:zY):List Nat:=pos.map λ a=>(zU N (zZ e a)).getD 0
def zas (N:List (Th × Nat))(r:PR)(t:Th):List (List Nat):=match yC [] (jC r) t with
 | none=>[]
 | some s=>(qN N (vW r.bs) (zM r.bs) s).map (j0 N (zM r.bs))
variable {N:List (Th × Nat)}
theorem zty {pos:List xH}(h:Ext e x)(hd:∀ a∈pos,Dom e a):j0 N pos x=j0 N pos e:=
 List.map_congr_left λ a ha=>by rw[h.fill (hd a ha)]
theorem zoo {K:List (Th × Nat)}{neg:List xH}(h:Ext e x)(hd:∀ a∈neg,Dom e a):jV K neg x=jV K neg e:=by
 unfold jV;have:∀ l:List xH,(∀ a∈l,a∈neg)->(l.any λ a=>(zU K (zZ x a)).isSome)=l.any λ a=>(zU K (zZ e a)).isSome:=by
  intro l
  induction l with
  | nil=>intro _;rfl
  | cons a r ih=>intro hl;rw[List.any_cons,List.any_cons,ih (λ b hb=>hl b (List.mem_cons_of_mem _ hb)),h.fill (hd a (hl a List.mem_cons_self))]
 exact this neg (λ _ h=>h)
variable {r:PR}
theorem j2.kq (hg:j2 ps r)(h:∀ a∈zM r.bs,Dom e a):∀ a∈vW r.bs,Dom e a:=λ a ha t ht hv=>by
 obtain⟨b,hb,Dr⟩:=hg.mQ a ha t ht hv;exact h b hb t Dr hv
theorem j2.tT (hg:j2 ps r)(h:∀ a∈zM r.bs,Dom e a):Dom e (jC r):=λ t ht hv=>by
 obtain⟨b,hb,Dr⟩:=hg.mP t ht hv;exact h b hb t Dr hv
theorem zji (hN:∀ p∈N,eE ps p.1)(hg:j2 ps r){t:Th}(ht:eE ps t)(row:List Nat):row∈zas N r t↔∃ e∈qN N (vW r.bs) (zM r.bs) [],zZ e (jC r)=t/\j0 N (zM r.bs) e=row:=by
 have fq:∀ a∈zM r.bs,∀ p∈N,ye1 a p.1:=λ a ha p hp=>zli (hg.pos a ha) (hN p hp)
 constructor
 ·intro h;unfold zas at h
  cases hs:yC [] (jC r) t with
  | none=>rw[hs] at h;cases h
  | some s=>
   rw[hs] at h;obtain⟨x,hx,rfl⟩:=List.mem_map.1 h;obtain⟨hx,ui⟩:=List.mem_filter.1 hx;obtain⟨-,b1,d1⟩:=zmc (zli hg.hd ht) hs;obtain⟨g2,b2⟩:=vS _ _ _ fq hx;obtain⟨e,he,g3⟩:=zhb (zM r.bs) [] (Ext.nil x) b2;have d3:∀ a∈zM r.bs,Dom e a:=λ a ha=>((vS _ _ _ fq he).2 a ha).1
   refine⟨e,List.mem_filter.2 ⟨he,?_⟩,?_,(zty g3 d3).symm⟩
   ·rw[<-zoo g3 (hg.kq d3)];exact ui
   ·rw[<-g3.fill (hg.tT d3),g2.fill d1,b1]
 ·rintro⟨e,he,hh,rfl⟩;obtain⟨he,ui⟩:=List.mem_filter.1 he;obtain⟨-,b2⟩:=vS _ _ _ fq he;have d2:∀ a∈zM r.bs,Dom e a:=λ a ha=>(b2 a ha).1
  obtain⟨s,hs,gs⟩:=zmd (Ext.nil e) (hg.tT d2);rw[hh] at hs;obtain⟨x,hx,g3⟩:=zhb (zM r.bs) s gs b2;have d3:∀ a∈zM r.bs,Dom x a:=λ a ha=>((vS _ _ _ fq hx).2 a ha).1
  unfold zas;rw[hs];refine List.mem_map.2 ⟨x,List.mem_filter.2 ⟨hx,?_⟩,(zty g3 d3).symm⟩;rw[<-zoo g3 (hg.kq d3)];exact ui
end
section
def qB (K N:List (Th × Nat)):Prop:=∀ t,(∃ n,(t,n)∈K)↔∃ n,(t,n)∈N
theorem zdz (K:List (Th × Nat))(t:Th):(zU K t).isSome=true↔∃ n,(t,n)∈K:=by
 constructor
 ·intro h;obtain⟨n,hn⟩:=Option.isSome_iff_exists.1 h;exact⟨n,vK hn⟩
 ·rintro⟨n,hn⟩
  cases h:zU K t with
  | some _=>rfl
  | none=>exact absurd hn (qC h n)
variable {K N:List (Th × Nat)}
theorem qB.look (h:qB K N)(t:Th):(zU K t).isSome=(zU N t).isSome:=by
 rw[Bool.eq_iff_iff,zdz,zdz];exact h t
theorem qB.jl {K N:List (Th × Nat)}(h:qB K N):∀ (pos:List xH) (e x:zY),x∈zR K pos e->x∈zR N pos e
 | [],e,x,hx=>hx
 | a::r,e,x,hx=>by
  rw[zR] at hx ⊢;obtain⟨p,hp,hx⟩:=List.mem_flatMap.1 hx;obtain⟨n,hn⟩:=(h p.1).1 ⟨p.2,hp⟩;refine List.mem_flatMap.2 ⟨_,hn,?_⟩
  cases hm:yC e a p.1 with
  | none=>rw[hm] at hx;cases hx
  | some e1=>rw[hm] at hx;exact h.jl r e1 x hx
theorem qB.symm (h:qB K N):qB N K:=λ t=>(h t).symm
theorem qB.ways (h:qB K N)(neg pos:List xH)(e x:zY):x∈qN K neg pos e↔x∈qN N neg pos e:=by
 have hd:jV K neg x=jV N neg x:=by
  unfold jV;have:(λ a:xH=>(zU K (zZ x a)).isSome)=λ a=>(zU N (zZ x a)).isSome:=funext λ a=>h.look _
  rw[this]
 unfold qN;rw[List.mem_filter,List.mem_filter,hd];exact and_congr_left λ _=>⟨h.jl pos e x,h.symm.jl pos e x⟩
end
section
structure my (N:List (Th × Nat))(rp:List PR)(t:Th)(i:Nat)(row:List Nat):Prop where
 low:∀ j (h:j<rp.length),j<i->zas N rp[j] t=[]
 lt:i<rp.length
 mem:row∈zas N rp[i] t
 least:∀ vb∈zas N rp[i] t,zi5 vb row=false
theorem my.uniq {N:List (Th × Nat)}{rp:List PR}{t:Th}{i j:Nat}{x y:List Nat}(h:my N rp t i x)(k:my N rp t j y):i=j/\x=y:=by
 have e:i=j:=by
  rcases Nat.lt_trichotomy i j with h1 | h1 | h1
  ·have:=h.mem;rw[k.low i h.lt h1] at this;cases this
  ·exact h1
  ·have:=k.mem;rw[h.low j k.lt h1] at this;cases this
 subst e;exact⟨rfl,z3f (k.least _ h.mem) (h.least _ k.mem)⟩
end
end Go.Proofs.YtldkpahaocjdpaaGreat
