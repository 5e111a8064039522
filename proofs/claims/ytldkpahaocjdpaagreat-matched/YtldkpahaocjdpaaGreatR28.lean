/-
  Plain: what a rule says, in the reference's words and in the program's.
-/
import Derived.Test.YtldkpahaocjdpaaGreatR27
import Derived.Deep.Upon
import Derived.Calls
set_option maxHeartbeats 16000000
set_option maxRecDepth 1000000
namespace Go.Proofs.YtldkpahaocjdpaaGreat
section
theorem ER (v n u:B8):∀ e:zY,pAt (e++[(v,n)]) u=match pAt e u with | some x=>some x | none=>if v.toList==u.toList then some n else none
 | []=>by rw[List.nil_append,pAt,pAt];simp[pAt]
 | x::r=>by
  rw[List.cons_append,pAt,pAt]
  by_cases c:(x.1.toList==u.toList)=true
  ·rw[if_pos c,if_pos c]
  ·rw[if_neg c,if_neg c];exact ER v n u r
structure oG (e e':zY)(k:Nat):Prop where
 w:eV e'
 len:e'.length<=e.length+k
 ext:∀ v x,pAt e v=some x->pAt e' v=some x
variable {e:zY}
theorem oG.refl (h:eV e):oG e e 0:=⟨h,by omega,λ _ _ h=>h⟩
variable {e':zY}
theorem ycj {t:zca}{n:B8}(hn:cJ n)(he:eV e)(h:pmT e t n=some e'):oG e e' 1/\(t.1=true->∃ x,pAt e' t.2=some x):=by
 unfold pmT at h
 by_cases hv:t.1=true
 ·rw[if_pos hv] at h;unfold pmB at h
  cases hp:pAt e t.2 with
  | none=>
   rw[hp] at h
   cases h
   refine⟨⟨he.snoc hn,by simp,λ v x hx=>by rw[ER,hx]⟩,λ _=>⟨n,?_⟩⟩;rw[ER,hp];simp
  | some x=>
   rw[hp] at h;simp only at h
   split at h
   ·cases h;exact⟨⟨he,by omega,λ _ _ h=>h⟩,λ _=>⟨x,hp⟩⟩
   ·cases h
 ·rw[if_neg hv] at h
  split at h
  ·cases h;exact⟨⟨he,by omega,λ _ _ h=>h⟩,λ c=>absurd c hv⟩
  ·cases h
theorem zx7:∀ (ts:List zca) (ns:List B8) (e e':zY),ts.length=ns.length->(∀ x∈ns,cJ x)->eV e->zem e ts ns=some e'->oG e e' ts.length/\∀ t∈ts,t.1=true->∃ x,pAt e' t.2=some x
 | [],_,e,e',_,_,he,h=>by
  rw[zem] at h
  cases h
  exact⟨oG.refl he,by simp⟩
 | t::ts,[],_,_,hl,_,_,_=>by cases hl
 | t::ts,n::ns,e,e',hl,hn,he,h=>by
  rw[zem] at h;simp only[List.headD_cons,List.tail_cons] at h
  cases h1:pmT e t n with
  | none=>rw[h1] at h;cases h
  | some e1=>
   rw[h1] at h;simp only at h;obtain⟨g1,b1⟩:=ycj (hn n List.mem_cons_self) he h1;obtain⟨g2,b2⟩:=zx7 ts ns e1 e' (by simpa using hl) (λ x hx=>hn x (List.mem_cons_of_mem _ hx)) g1.w h;refine⟨⟨g2.w,by have:=g1.len;have:=g2.len;simp;omega,λ v x hx=>g2.ext v x (g1.ext v x hx)⟩,λ u hu hv=>?_⟩;rcases List.mem_cons.1 hu with rfl | hu
   ·obtain⟨x,hx⟩:=b1 hv;exact⟨x,g2.ext _ _ hx⟩
   ·exact b2 u hu hv
variable {ps:P9}
theorem zo8 {a:xG}{t:Th}(ha:zpv ps a)(ht:eE ps t)(he:eV e)(h:yC e a t=some e'):oG e e' 4/\∀ t∈a.ts,t.1=true->∃ x,pAt e' t.2=some x:=by
 unfold yC at h
 split at h
 ·rename_i c;have hp:a.p=t.1:=yB.1 c;have hl:a.ts.length=t.2.length:=by
   have h1:=ha.num;rw[hp,ht.num] at h1;exact (Option.some.inj h1).symm
  obtain⟨g,b⟩:=zx7 a.ts t.2 e e' hl ht.w.ts he h;exact⟨⟨g.w,by have:=g.len;have:=ha.w.ft;omega,g.ext⟩,b⟩
 ·cases h
theorem zcm {ps:P9}{K:List (Th × Nat)}(hK:∀ p∈K,eE ps p.1):∀ (pos:List xG) (e0 e:zY),(∀ a∈pos,zpv ps a)->eV e0->e∈zR K pos e0->oG e0 e (4*pos.length)/\∀ a∈pos,∀ t∈a.ts,t.1=true->∃ x,pAt e t.2=some x
 | [],e0,e,_,he,h=>by
  rw[zR] at h;rw[List.mem_singleton.1 h];exact⟨oG.refl he,by simp⟩
 | a::r,e0,e,ha,he,h=>by
  rw[zR] at h;obtain⟨p,hp,h⟩:=List.mem_flatMap.1 h
  cases hm:yC e0 a p.1 with
  | none=>rw[hm] at h;simp at h
  | some e1=>
   rw[hm] at h;simp only at h;obtain⟨g1,b1⟩:=zo8 (ha a List.mem_cons_self) (hK p hp) he hm;obtain⟨g2,b2⟩:=zcm hK r e1 e (λ x hx=>ha x (List.mem_cons_of_mem _ hx)) g1.w h;refine⟨⟨g2.w,by have:=g1.len;have:=g2.len;simp;omega,λ v x hx=>g2.ext v x (g1.ext v x hx)⟩,λ x hx t ht hv=>?_⟩;rcases List.mem_cons.1 hx with rfl | hx
   ·obtain⟨y,hy⟩:=b1 t ht hv;exact⟨y,g2.ext _ _ hy⟩
   ·exact b2 x hx t ht hv
theorem zhu {A:xG}(hA:zpv ps A)(he:eV e)(hb:∀ t∈A.ts,t.1=true->∃ x,pAt e t.2=some x):eE ps (zZ e A):=by
 refine⟨⟨hA.w.pd,λ x hx=>?_⟩,?_,?_⟩
 ·obtain⟨t,ht,rfl⟩:=List.mem_map.1 hx;unfold cd
  split
  ·rename_i hv;obtain⟨x,h1⟩:=hb t ht hv;unfold dR;rw[h1];exact z8g he h1
  ·exact hA.w.ts t ht
 ·show zV ps A.p=some (A.ts.map (cd e)).length
  rw[List.length_map];exact hA.num
 ·show (A.ts.map (cd e)).length<=4
  rw[List.length_map];exact hA.w.ft
theorem eE.ok {t:Th}(h:eE ps t):zbk t:=
 ⟨by have:=h.w.pd.le;show t.1.size<=_;omega,h.ft,λ x hx=>by have:=(h.w.ts x hx).le;omega,λ x hx=>(h.w.ts x hx).ne⟩
theorem zqu {ls:List (yR × Value)}{a:xG}:a∈zM ls↔∃ x∈ls,x.1.neg=false/\a=⟨x.1.pd,x.1.ts⟩:=by
 unfold zM zW;simp only[List.map_map,List.mem_map,List.mem_filter,Function.comp_def,zhy,xA]
 constructor
 ·rintro⟨x,⟨h1,h2⟩,rfl⟩;exact⟨x,h1,by simpa using h2,rfl⟩
 ·rintro⟨x,h1,h2,rfl⟩;exact⟨x,⟨h1,by simp[h2]⟩,rfl⟩
theorem zvk {ls:List (yR × Value)}{a:xG}:a∈vV ls↔∃ x∈ls,x.1.neg=true/\a=⟨x.1.pd,x.1.ts⟩:=by
 unfold vV zW;simp only[List.map_map,List.mem_map,List.mem_filter,Function.comp_def,zhy,xA]
 constructor
 ·rintro⟨x,⟨h1,h2⟩,rfl⟩;exact⟨x,h1,by simpa using h2,rfl⟩
 ·rintro⟨x,h1,h2,rfl⟩;exact⟨x,⟨h1,by simp[h2]⟩,rfl⟩
structure j0 (ps:P9)(r:PR):Prop where
 l3:r.bs.length<=3
 hd:zpv ps (jB r)
 ls:∀ x∈r.bs,zpv ps ⟨x.1.pd,x.1.ts⟩
 mP:∀ t∈(jB r).ts,t.1=true->∃ a∈zM r.bs,t∈a.ts
 mQ:∀ x∈vV r.bs,∀ t∈x.ts,t.1=true->∃ a∈zM r.bs,t∈a.ts
variable {r:PR}
theorem j0.pos (h:j0 ps r):∀ a∈zM r.bs,zpv ps a:=λ a ha=>by
 obtain⟨x,hx,_,rfl⟩:=zqu.1 ha;exact h.ls x hx
theorem j0.neg (h:j0 ps r):∀ a∈vV r.bs,zpv ps a:=λ a ha=>by
 obtain⟨x,hx,_,rfl⟩:=zvk.1 ha;exact h.ls x hx
theorem yck (ls:List (yR × Value)):(zM ls).length<=ls.length:=by
 unfold zM zW;rw[List.length_map,List.length_map];exact List.length_filter_le _ _
theorem zp8:eV []:=λ p hp=>by cases hp
structure yfi (ps:P9)(r:PR)(e:zY):Prop where
 w:eV e
 len:e.length<=12
 hd:eE ps (zZ e (jB r))
 neg:∀ x∈vV r.bs,eE ps (zZ e x)
theorem j0.rE (h:j0 ps r){K:List (Th × Nat)}(hK:∀ p∈K,eE ps p.1)(he:e∈zR K (zM r.bs) []):yfi ps r e:=by
 obtain⟨g,b⟩:=zcm hK (zM r.bs) [] e h.pos zp8 he;refine⟨g.w,?_,zhu h.hd g.w λ t ht hv=>?_,λ x hx=>zhu (h.neg x hx) g.w λ t ht hv=>?_⟩
 ·have h1:=g.len;have h2:=yck r.bs;have h3:=h.l3;rw[List.length_nil] at h1;omega
 ·obtain⟨a,ha,zu⟩:=h.mP t ht hv;exact b a ha t zu hv
 ·obtain⟨a,ha,zu⟩:=h.mQ x hx t ht hv;exact b a ha t zu hv
theorem zez {rs:List PR}(h:∀ r∈rs,j0 ps r):fI rs (eE ps):=λ _ hK r hr=>
 have g:=h r hr
 ⟨⟨g.l3,λ x hx=>(g.ls x hx).w.ft,g.hd.w.ft,λ _ he x hx=>((g.rE hK he).neg x hx).ok,λ _ he=>(g.rE hK he).hd.ok,λ _ he=>(g.rE hK he).len⟩,λ _ he=>(g.rE hK he).hd⟩
theorem yav {t:Th}(h:eE ps t):(j2 t.1 (xE t)).length<=1000000000:=by
 have h1:=zmk (xE t) 0 (λ x hx=>by have:=(h.w.aS x hx).le;omega);have h2:(xE t).length=t.2.length:=by unfold xE;simp
 have h3:=h.ft;have h4:=h.w.pd.le;have h5:=zfn t.1;unfold j2;rw[List.length_append,List.length_append];have h6:(if (xE t).length=0 then ([]:List UInt8) else [41]).length<=1:=by split <;> simp
 have h7:(xE t).length*1001<=4*1001:=Nat.mul_le_mul_right _ (by omega);omega
end
section
def yfq (b:List yX):List xG:=(b.filter λ A=>!A.no).map pa
def yej (b:List yX):List xG:=(b.filter λ A=>A.no).map pa
structure mu (R:yT)(r:PR):Prop where
 eq:r.R=yU R
 bd:r.bs.map (·.1)=r.R.body
variable {r:PR} {R:yT}
theorem mu.pos (h:mu R r):zM r.bs=yfq R.body:=by
 have e:r.bs.map (·.1)=R.body.map bl:=by rw[h.bd,h.eq];rfl
 unfold zM zW yfq;have:∀ (ls:List (yR × Value)) (b:List yX),ls.map (·.1)=b.map bl->((ls.filter (xA false)).map zhy).map (·.1)=(b.filter λ A=>!A.no).map pa:=by
  intro ls
  induction ls with
  | nil=>intro b hb;cases b with
   | nil=>rfl
   | cons x r=>cases hb
  | cons x q ih=>
   intro b hb
   cases b with
   | nil=>cases hb
   | cons A b=>
    rw[List.map_cons,List.map_cons] at hb;injection hb with h1 h2
    have:=ih b h2;rw[List.filter_cons,List.filter_cons];have hn:x.1.neg=A.no:=(by rw[h1];rfl);unfold xA at this ⊢;rw[hn]
    cases A.no with
    | true=>simpa using this
    | false=>
     simp only[Bool.not_false,if_true,beq_self_eq_true,List.map_cons];rw[this]
     congr 1
     show (⟨x.1.pd,x.1.ts⟩:xG)=pa A
     rw[h1];rfl
 exact this _ _ e
theorem mu.neg {R:yT}{r:PR}(h:mu R r):vV r.bs=yej R.body:=by
 have e:r.bs.map (·.1)=R.body.map bl:=by rw[h.bd,h.eq];rfl
 unfold vV zW yej;have:∀ (ls:List (yR × Value)) (b:List yX),ls.map (·.1)=b.map bl->((ls.filter (xA true)).map zhy).map (·.1)=(b.filter λ A=>A.no).map pa:=by
  intro ls
  induction ls with
  | nil=>intro b hb;cases b with
   | nil=>rfl
   | cons x r=>cases hb
  | cons x q ih=>
   intro b hb
   cases b with
   | nil=>cases hb
   | cons A b=>
    rw[List.map_cons,List.map_cons] at hb;injection hb with h1 h2
    have:=ih b h2;rw[List.filter_cons,List.filter_cons];have hn:x.1.neg=A.no:=(by rw[h1];rfl);unfold xA at this ⊢;rw[hn]
    cases A.no with
    | false=>simpa using this
    | true=>
     simp only[if_true,beq_self_eq_true,List.map_cons];rw[this]
     congr 1
     show (⟨x.1.pd,x.1.ts⟩:xG)=pa A
     rw[h1];rfl
 exact this _ _ e
theorem mu.hd (h:mu R r):jB r=pa R.head:=by unfold jB;rw[h.eq];rfl
end
section
open Go.RowKit
variable {w:W8}
theorem z42 {base:Nat}{e:TypeId}{size g n cap:Nat}{xs:V8}(h:w.ownsRow base e size (.slice (some ⟨g,0,none⟩) n cap) n xs):∀ j u,xs[j]?=some u->w.cell? ((⟨g,0,none⟩:Addr).add j)=some u:=by
 intro j u hj;have hl:xs.length=n*size:=h.1;have bP:j<xs.length:=(List.getElem?_eq_some_iff.1 hj).1;rcases h.2 with⟨h1,_⟩ | ⟨g',oI,cur,hv,hb,hg,dG,dx,eZ,ht⟩
 ·cases h1
 ·injection hv with h1 h2 h3
  injection h1 with h1
  injection h1 with h1
  subst h1;have:=h.cellAt j (by omega);unfold Addr.add
  split <;> simp_all
theorem zio {P:Program}{ops:Array Oper}{rest:List Oper}{o:Oper}{a:Act}{Q:Exit->Act->W8->Prop}(CA:o.guard=none)(s x:Operand)(t:TypeId)(ho:o.op=.call { callee:=.builtin .append,args:=#[s,x],argTypes:=#[t,t] })(v xv:Value)(hs:a.eval s=v)(hx:a.eval x=xv)(hr:∀ ty,(Builtin.append_ #[t,t] ty #[v,xv]).run P w=.ok v w)(h:wpList P ops Q rest (a.put o.dst v) w):wpList P ops Q (o::rest) a w:=
 wpList_plain CA λ _ hK=>by
  unfold Oper.wp execOp;simp only[ho,resolve,invoke,builtin,Sem.run_bind,Sem.run_pure,Result.andThen_ok,List.map_toArray,List.map_cons,List.map_nil,hs,hx,hr];exact hK _ _ h
end
section
structure z6x (ps:P9)(rs:List yT)(rp:List PR):Prop where
 fwd:∀ R∈rs,∃ r∈rp,mu R r
 bwd:∀ r∈rp,∃ R∈rs,mu R r
 dh:∀ r∈rp,j0 ps r
end
section
def zi4:List Nat->List Nat->Bool
 | [],[]=>false
 | [],_::_=>true
 | _::_,[]=>false
 | a::x,b::y=>if a<b then true else if b<a then false else zi4 x y
theorem Ng:∀ x:List Nat,zi4 x x=false
 | []=>rfl
 | a::x=>by rw[zi4,if_neg (Nat.lt_irrefl a),if_neg (Nat.lt_irrefl a)];exact Ng x
theorem zi5:∀ {x y z:List Nat},zi4 x y=true->zi4 y z=true->zi4 x z=true
 | [],[],_,h,_=>by cases h
 | [],_::_,[],_,h=>by cases h
 | [],_::_,_::_,_,_=>rfl
 | _::_,[],_,h,_=>by cases h
 | _::_,_::_,[],_,h=>by cases h
 | a::x,b::y,c::z,h,k=>by
  rw[zi4] at h k ⊢
  by_cases h1:a<b
  ·by_cases h2:b<c
   ·rw[if_pos (by omega)]
   ·rw[if_neg h2] at k
    by_cases h3:c<b
    ·rw[if_pos h3] at k;cases k
    ·rw[if_pos (by omega)]
  ·rw[if_neg h1] at h
   by_cases h4:b<a
   ·rw[if_pos h4] at h;cases h
   ·rw[if_neg h4] at h;have:a=b:=by omega
    subst this
    by_cases h2:a<c
    ·rw[if_pos h2]
    ·rw[if_neg h2] at k ⊢
     by_cases h3:c<a
     ·rw[if_pos h3] at k;cases k
     ·rw[if_neg h3] at k ⊢;exact zi5 h k
theorem z3e:∀ {x y:List Nat},zi4 x y=false->zi4 y x=false->x=y
 | [],[],_,_=>rfl
 | [],_::_,h,_=>by cases h
 | _::_,[],_,h=>by cases h
 | a::x,b::y,h,k=>by
  rw[zi4] at h k
  by_cases h1:a<b
  ·rw[if_pos h1] at h;cases h
  ·by_cases h2:b<a
   ·rw[if_pos h2] at k;cases k
   ·rw[if_neg h1,if_neg h2] at h;rw[if_neg h2,if_neg h1] at k;rw[z3e h k,show a=b by omega]
def zol (x y:Nat):Int:=if x<y then -1 else if y<x then 1 else 0
def zqj:List Nat->List Nat->Int
 | [],[]=>0
 | [],_::_=>-1
 | _::_,[]=>1
 | a::x,b::y=>if zol a b=0 then zqj x y else zol a b
theorem zxp:∀ x y:List Nat,zqj x y<0↔zi4 x y=true
 | [],[]=>by simp[zqj,zi4]
 | [],_::_=>by simp[zqj,zi4]
 | _::_,[]=>by simp[zqj,zi4]
 | a::x,b::y=>by
  have ih:=zxp x y;rw[zqj,zi4];unfold zol
  by_cases h1:a<b
  ·simp[h1]
  ·by_cases h2:b<a
   ·simp[h1,h2]
   ·simp only[if_neg h1,if_neg h2,if_true];exact ih
end
section
def Ext (e x:zY):Prop:=∀ v y,pAt e v=some y->pAt x v=some y
def Dom (e:zY)(a:xG):Prop:=∀ t∈a.ts,t.1=true->∃ x,pAt e t.2=some x
theorem Ext.refl (e:zY):Ext e e:=λ _ _ h=>h
theorem Ext.trans {a b c:zY}(h:Ext a b)(k:Ext b c):Ext a c:=λ v y hv=>k v y (h v y hv)
theorem Ext.nil (e:zY):Ext [] e:=λ v y h=>by cases h
theorem Ext.cd {e x:zY}(h:Ext e x){t:zca}(hd:t.1=true->∃ y,pAt e t.2=some y):cd x t=cd e t:=by
 unfold Go.Proofs.YtldkpahaocjdpaaGreat.cd
 split
 ·rename_i ht;obtain⟨y,hy⟩:=hd ht;unfold dR;rw[h _ _ hy,hy]
 ·rfl
variable {e x:zY}
theorem Ext.fill (h:Ext e x){a:xG}(hd:Dom e a):zZ x a=zZ e a:=
 Prod.ext rfl (List.map_congr_left λ t ht=>h.cd (hd t ht))
theorem Ext.IL (h:Ext e x){a:xG}(hd:Dom e a):Dom x a:=λ t ht hv=>let ⟨y,hy⟩:=hd t ht hv;⟨y,h _ _ hy⟩
variable {e':zY}
theorem z8p {t:zca}{n:B8}(h:pmT e t n=some e'):Ext e e'/\cd e' t=n/\(t.1=true->∃ x,pAt e' t.2=some x):=by
 unfold pmT at h
 by_cases hv:t.1=true
 ·rw[if_pos hv] at h;unfold pmB at h
  cases hp:pAt e t.2 with
  | none=>
   rw[hp] at h
   cases h
   have h2:pAt (e++[(t.2,n)]) t.2=some n:=(by rw[ER,hp];simp);refine⟨λ v x hx=>by rw[ER,hx],?_,λ _=>⟨n,h2⟩⟩;unfold cd dR;rw[if_pos hv,h2];rfl
  | some x=>
   rw[hp] at h;simp only at h
   split at h
   ·rename_i hq
    cases h
    refine⟨Ext.refl _,?_,λ _=>⟨x,hp⟩⟩;unfold cd dR;rw[if_pos hv,hp];exact yB.1 hq
   ·cases h
 ·rw[if_neg hv] at h
  split at h
  ·rename_i hq
   cases h
   refine⟨Ext.refl _,?_,λ c=>absurd c hv⟩;unfold cd;rw[if_neg hv];exact yB.1 hq
  ·cases h
theorem yeo (hx:Ext e x){t:zca}(hd:t.1=true->∃ y,pAt x t.2=some y):∃ e',pmT e t (cd x t)=some e'/\Ext e' x:=by
 unfold pmT cd
 by_cases hv:t.1=true
 ·obtain⟨y,hy⟩:=hd hv;rw[if_pos hv,if_pos hv];unfold dR pmB;rw[hy];simp only[Option.getD_some]
  cases hp:pAt e t.2 with
  | none=>
   refine⟨_,rfl,λ v z hz=>?_⟩;rw[ER] at hz
   cases hq:pAt e v with
   | some q=>rw[hq] at hz;cases hz;exact hx _ _ hq
   | none=>
    rw[hq] at hz;simp only at hz
    split at hz
    ·rename_i hc
     cases hz
     rw[<-yB.1 hc];exact hy
    ·cases hz
  | some q=>
   have:=hx _ _ hp;rw[hy] at this
   cases this
   exact⟨e,by simp,hx⟩
 ·rw[if_neg hv,if_neg hv];exact⟨e,by simp,hx⟩
theorem zth:∀ (ts:List zca) (ns:List B8) (e e':zY),ts.length=ns.length->zem e ts ns=some e'->Ext e e'/\ts.map (cd e')=ns/\∀ t∈ts,t.1=true->∃ x,pAt e' t.2=some x
 | [],[],e,e',_,h=>by rw[zem] at h;cases h;exact⟨Ext.refl _,rfl,by simp⟩
 | [],_::_,_,_,hl,_=>by cases hl
 | _::_,[],_,_,hl,_=>by cases hl
 | t::ts,n::ns,e,e',hl,h=>by
  rw[zem] at h;simp only[List.headD_cons,List.tail_cons] at h
  cases h1:pmT e t n with
  | none=>rw[h1] at h;cases h
  | some e1=>
   rw[h1] at h;simp only at h;obtain⟨g1,b1,d1⟩:=z8p h1;obtain⟨g2,b2,d2⟩:=zth ts ns e1 e' (by simpa using hl) h;refine⟨g1.trans g2,?_,λ u hu hv=>?_⟩
   ·rw[List.map_cons,b2,g2.cd d1,b1]
   ·rcases List.mem_cons.1 hu with rfl | hu
    ·obtain⟨x,hx⟩:=d1 hv;exact⟨x,g2 _ _ hx⟩
    ·exact d2 u hu hv
theorem z4l {x:zY}:∀ (ts:List zca) (e:zY),Ext e x->(∀ t∈ts,t.1=true->∃ y,pAt x t.2=some y)->∃ e',zem e ts (ts.map (cd x))=some e'/\Ext e' x
 | [],e,h,_=>⟨e,rfl,h⟩
 | t::ts,e,h,hd=>by
  obtain⟨e1,h1,g1⟩:=yeo h (hd t List.mem_cons_self);obtain⟨e2,h2,g2⟩:=z4l ts e1 g1 (λ u hu=>hd u (List.mem_cons_of_mem _ hu));refine⟨e2,?_,g2⟩;rw[zem];simp only[List.map_cons,List.headD_cons,List.tail_cons];rw[h1];exact h2
def ye0 (a:xG)(t:Th):Prop:=a.p=t.1->a.ts.length=t.2.length
variable {ps:P9}
theorem zlh {a:xG}{t:Th}(ha:zpv ps a)(ht:eE ps t):ye0 a t:=λ e=>by
 have h1:=ha.num;rw[e,ht.num] at h1;exact (Option.some.inj h1).symm
theorem zmb {a:xG}{t:Th}(hf:ye0 a t)(h:yC e a t=some e'):Ext e e'/\zZ e' a=t/\Dom e' a:=by
 unfold yC at h
 split at h
 ·rename_i c;have hp:a.p=t.1:=yB.1 c;obtain⟨g,b,d⟩:=zth a.ts t.2 e e' (hf hp) h;exact⟨g,Prod.ext hp b,d⟩
 ·cases h
theorem zmc (hx:Ext e x){a:xG}(hd:Dom x a):∃ e',yC e a (zZ x a)=some e'/\Ext e' x:=by
 obtain⟨e',h1,h2⟩:=z4l a.ts e hx hd;refine⟨e',?_,h2⟩;unfold yC;rw[if_pos (by simp[zZ])];exact h1
theorem vR {K:List (Th × Nat)}:∀ (pos:List xG) (e x:zY),(∀ a∈pos,∀ p∈K,ye0 a p.1)->x∈zR K pos e->Ext e x/\∀ a∈pos,Dom x a/\∃ n,(zZ x a,n)∈K
 | [],e,x,_,h=>by
  rw[zR] at h;rw[List.mem_singleton.1 h];exact⟨Ext.refl _,by simp⟩
 | a::r,e,x,hf,h=>by
  rw[zR] at h;obtain⟨p,hp,h⟩:=List.mem_flatMap.1 h
  cases hm:yC e a p.1 with
  | none=>rw[hm] at h;simp at h
  | some e1=>
   rw[hm] at h;simp only at h;obtain⟨g1,b1,d1⟩:=zmb (hf a List.mem_cons_self p hp) hm;obtain⟨g2,b2⟩:=vR r e1 x (λ y hy=>hf y (List.mem_cons_of_mem _ hy)) h;refine⟨g1.trans g2,λ y hy=>?_⟩;rcases List.mem_cons.1 hy with rfl | hy
   ·exact⟨g2.IL d1,p.2,by rw[g2.fill d1,b1];exact hp⟩
   ·exact b2 y hy
theorem zha {K:List (Th × Nat)}{x:zY}:∀ (pos:List xG) (e:zY),Ext e x->(∀ a∈pos,Dom x a/\∃ n,(zZ x a,n)∈K)->∃ e'∈zR K pos e,Ext e' x
 | [],e,h,_=>⟨e,by rw[zR];exact List.mem_singleton.2 rfl,h⟩
 | a::r,e,h,hd=>by
  obtain⟨d,n,hn⟩:=hd a List.mem_cons_self;obtain⟨e1,h1,g1⟩:=zmc h d;obtain⟨e2,h2,g2⟩:=zha r e1 g1 (λ y hy=>hd y (List.mem_cons_of_mem _ hy));refine⟨e2,?_,g2⟩;rw[zR];refine List.mem_flatMap.2 ⟨_,hn,?_⟩;rw[h1];exact h2
def jZ (N:List (Th × Nat))(pos:List xG)(e:zY):List Nat:=pos.map λ a=>(zU N (zZ e a)).getD 0
def zar (N:List (Th × Nat))(r:PR)(t:Th):List (List Nat):=match yC [] (jB r) t with
 | none=>[]
 | some s=>(qM N (vV r.bs) (zM r.bs) s).map (jZ N (zM r.bs))
variable {N:List (Th × Nat)}
theorem ztx {pos:List xG}(h:Ext e x)(hd:∀ a∈pos,Dom e a):jZ N pos x=jZ N pos e:=
 List.map_congr_left λ a ha=>by rw[h.fill (hd a ha)]
theorem zon {K:List (Th × Nat)}{neg:List xG}(h:Ext e x)(hd:∀ a∈neg,Dom e a):jU K neg x=jU K neg e:=by
 unfold jU;have:∀ l:List xG,(∀ a∈l,a∈neg)->(l.any λ a=>(zU K (zZ x a)).isSome)=l.any λ a=>(zU K (zZ e a)).isSome:=by
  intro l
  induction l with
  | nil=>intro _;rfl
  | cons a r ih=>intro hl;rw[List.any_cons,List.any_cons,ih (λ b hb=>hl b (List.mem_cons_of_mem _ hb)),h.fill (hd a (hl a List.mem_cons_self))]
 exact this neg (λ _ h=>h)
variable {r:PR}
theorem j0.kq (hg:j0 ps r)(h:∀ a∈zM r.bs,Dom e a):∀ a∈vV r.bs,Dom e a:=λ a ha t ht hv=>by
 obtain⟨b,hb,Dr⟩:=hg.mQ a ha t ht hv;exact h b hb t Dr hv
theorem j0.tT (hg:j0 ps r)(h:∀ a∈zM r.bs,Dom e a):Dom e (jB r):=λ t ht hv=>by
 obtain⟨b,hb,Dr⟩:=hg.mP t ht hv;exact h b hb t Dr hv
theorem zjh (hN:∀ p∈N,eE ps p.1)(hg:j0 ps r){t:Th}(ht:eE ps t)(row:List Nat):row∈zar N r t↔∃ e∈qM N (vV r.bs) (zM r.bs) [],zZ e (jB r)=t/\jZ N (zM r.bs) e=row:=by
 have fq:∀ a∈zM r.bs,∀ p∈N,ye0 a p.1:=λ a ha p hp=>zlh (hg.pos a ha) (hN p hp)
 constructor
 ·intro h;unfold zar at h
  cases hs:yC [] (jB r) t with
  | none=>rw[hs] at h;cases h
  | some s=>
   rw[hs] at h;obtain⟨x,hx,rfl⟩:=List.mem_map.1 h;obtain⟨hx,ui⟩:=List.mem_filter.1 hx;obtain⟨-,b1,d1⟩:=zmb (zlh hg.hd ht) hs;obtain⟨g2,b2⟩:=vR _ _ _ fq hx;obtain⟨e,he,g3⟩:=zha (zM r.bs) [] (Ext.nil x) b2;have d3:∀ a∈zM r.bs,Dom e a:=λ a ha=>((vR _ _ _ fq he).2 a ha).1
   refine⟨e,List.mem_filter.2 ⟨he,?_⟩,?_,(ztx g3 d3).symm⟩
   ·rw[<-zon g3 (hg.kq d3)];exact ui
   ·rw[<-g3.fill (hg.tT d3),g2.fill d1,b1]
 ·rintro⟨e,he,hh,rfl⟩;obtain⟨he,ui⟩:=List.mem_filter.1 he;obtain⟨-,b2⟩:=vR _ _ _ fq he;have d2:∀ a∈zM r.bs,Dom e a:=λ a ha=>(b2 a ha).1
  obtain⟨s,hs,gs⟩:=zmc (Ext.nil e) (hg.tT d2);rw[hh] at hs;obtain⟨x,hx,g3⟩:=zha (zM r.bs) s gs b2;have d3:∀ a∈zM r.bs,Dom x a:=λ a ha=>((vR _ _ _ fq hx).2 a ha).1
  unfold zar;rw[hs];refine List.mem_map.2 ⟨x,List.mem_filter.2 ⟨hx,?_⟩,(ztx g3 d3).symm⟩;rw[<-zon g3 (hg.kq d3)];exact ui
end
section
def qA (K N:List (Th × Nat)):Prop:=∀ t,(∃ n,(t,n)∈K)↔∃ n,(t,n)∈N
theorem zdy (K:List (Th × Nat))(t:Th):(zU K t).isSome=true↔∃ n,(t,n)∈K:=by
 constructor
 ·intro h;obtain⟨n,hn⟩:=Option.isSome_iff_exists.1 h;exact⟨n,vJ hn⟩
 ·rintro⟨n,hn⟩
  cases h:zU K t with
  | some _=>rfl
  | none=>exact absurd hn (qB h n)
variable {K N:List (Th × Nat)}
theorem qA.look (h:qA K N)(t:Th):(zU K t).isSome=(zU N t).isSome:=by
 rw[Bool.eq_iff_iff,zdy,zdy];exact h t
theorem qA.jl {K N:List (Th × Nat)}(h:qA K N):∀ (pos:List xG) (e x:zY),x∈zR K pos e->x∈zR N pos e
 | [],e,x,hx=>hx
 | a::r,e,x,hx=>by
  rw[zR] at hx ⊢;obtain⟨p,hp,hx⟩:=List.mem_flatMap.1 hx;obtain⟨n,hn⟩:=(h p.1).1 ⟨p.2,hp⟩;refine List.mem_flatMap.2 ⟨_,hn,?_⟩
  cases hm:yC e a p.1 with
  | none=>rw[hm] at hx;cases hx
  | some e1=>rw[hm] at hx;exact h.jl r e1 x hx
theorem qA.symm (h:qA K N):qA N K:=λ t=>(h t).symm
theorem qA.ways (h:qA K N)(neg pos:List xG)(e x:zY):x∈qM K neg pos e↔x∈qM N neg pos e:=by
 have hd:jU K neg x=jU N neg x:=by
  unfold jU;have:(λ a:xG=>(zU K (zZ x a)).isSome)=λ a=>(zU N (zZ x a)).isSome:=funext λ a=>h.look _
  rw[this]
 unfold qM;rw[List.mem_filter,List.mem_filter,hd];exact and_congr_left λ _=>⟨h.jl pos e x,h.symm.jl pos e x⟩
end
section
structure my (N:List (Th × Nat))(rp:List PR)(t:Th)(i:Nat)(row:List Nat):Prop where
 low:∀ j (h:j<rp.length),j<i->zar N rp[j] t=[]
 lt:i<rp.length
 mem:row∈zar N rp[i] t
 least:∀ vb∈zar N rp[i] t,zi4 vb row=false
theorem my.uniq {N:List (Th × Nat)}{rp:List PR}{t:Th}{i j:Nat}{x y:List Nat}(h:my N rp t i x)(k:my N rp t j y):i=j/\x=y:=by
 have e:i=j:=by
  rcases Nat.lt_trichotomy i j with h1 | h1 | h1
  ·have:=h.mem;rw[k.low i h.lt h1] at this;cases this
  ·exact h1
  ·have:=k.mem;rw[h.low j k.lt h1] at this;cases this
 subst e;exact⟨rfl,z3e (k.least _ h.mem) (h.least _ k.mem)⟩
end
end Go.Proofs.YtldkpahaocjdpaaGreat
