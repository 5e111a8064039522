/-
  The reference's Model.
-/
import Derived.Deep.Upon
import Derived.Test.YtldkpahaocjdpaaGreatD27
import Derived.Calls
set_option maxHeartbeats 16000000
set_option maxRecDepth 1000000
namespace Go.Proofs.YtldkpahaocjdpaaGreat
section
open Go.RowKit
variable {w:W8}
theorem z3f {base:Nat}{e:TypeId}{size g n cap:Nat}{xs:V8}(h:w.ownsRow base e size (.slice (some ⟨g,0,none⟩) n cap) n xs):∀ j u,xs[j]?=some u->w.cell? ((⟨g,0,none⟩:Addr).add j)=some u:=by
 intro j u hj;have hl:xs.length=n*size:=h.1;have bP:j<xs.length:=(List.getElem?_eq_some_iff.1 hj).1;rcases h.2 with⟨h1,_⟩ | ⟨g',oI,cur,hv,hb,hg,dG,dx,eZ,ht⟩
 ·cases h1
 ·injection hv with h1 h2 h3
  injection h1 with h1
  injection h1 with h1
  subst h1;have:=h.cellAt j (by omega);unfold Addr.add
  split <;> simp_all
theorem zh7 {P:Program}{ops:Array Oper}{rest:List Oper}{o:Oper}{a:Act}{Q:Exit->Act->W8->Prop}(CA:o.guard=none)(s x:Operand)(t:TypeId)(ho:o.op=.call { callee:=.builtin .append,args:=#[s,x],argTypes:=#[t,t] })(v xv:Value)(hs:a.eval s=v)(hx:a.eval x=xv)(hr:∀ ty,(Builtin.append_ #[t,t] ty #[v,xv]).run P w=.ok v w)(h:wpList P ops Q rest (a.put o.dst v) w):wpList P ops Q (o::rest) a w:=
 wpList_plain CA λ _ hK=>by
  unfold Oper.wp execOp;simp only[ho,resolve,invoke,builtin,Sem.run_bind,Sem.run_pure,Result.andThen_ok,List.map_toArray,List.map_cons,List.map_nil,hs,hx,hr];exact hK _ _ h
end
section
structure z5f (ps:P9)(rs:List yN)(rp:List PR):Prop where
 fwd:∀ R∈rs,∃ r∈rp,lS R r
 bwd:∀ r∈rp,∃ R∈rs,lS R r
 dh:∀ r∈rp,jZ ps r
end
section
open Go.RowKit
def zat (s:B8):yR:=⟨(tok s 0).text,(yD s 0 (-1)).1,false,(tok s 0).at_,0⟩
def zm4 (s:B8):Bool:=decide ((yD s 0 (-1)).2.2<0)&&(tok s (yD s 0 (-1)).2.1).kind==46
def zw9 (ps:P9)(s:B8):Bool:=zm4 s&&zdu ps (tok s 0).text (yD s 0 (-1)).1.length
end
section
theorem zrz:∀ (L ps:P9),qT L ps->(∀ k n,zZ ps k=some n->zZ (j5 L ps) k=some n)/\∀ x∈L,zZ (j5 L ps) x.1=some x.2
 | [],ps,_=>⟨λ _ _ h=>h,by simp⟩
 | x::r,ps,h=>by
  obtain⟨h1,h2⟩:=h;obtain⟨i1,i2⟩:=zrz r (zao ps x.1 x.2) h2;rw[j5];have hx:zZ (zao ps x.1 x.2) x.1=some x.2:=by rw[ziu h1,if_pos rfl]
  refine⟨λ k n hk=>i1 k n ?_,λ y hy=>?_⟩
  ·rw[ziu h1]
   by_cases e:k=x.1
   ·rw[if_pos e];rw[qM] at h1;rw[e] at hk;rw[hk] at h1;have h3:n=x.2:=(by simpa using h1);rw[h3]
   ·rw[if_neg e];exact hk
  ·rcases List.mem_cons.1 hy with rfl | hy
   ·exact i1 _ _ hx
   ·exact i2 y hy
theorem zuo {body:List yR}:∀ (ts:List zef),za1 body ts<0->∀ t∈ts,t.isVar=true->zp1 t.text body=true
 | [],_,t,ht,_=>by cases ht
 | u::r,h,t,ht,hv=>by
  rw[za1] at h
  split at h
  ·omega
  ·rename_i c;rcases List.mem_cons.1 ht with rfl | ht
   ·simp only[hv,Bool.true_and,Bool.not_eq_true',Bool.not_eq_false] at c;exact c
   ·exact zuo r h t ht hv
theorem znh {body:List yR}:∀ (l:List yR),zb1 body l<0->∀ A∈l,A.no=true->za1 body A.aS<0
 | [],_,A,hA,_=>by cases hA
 | B::r,h,A,hA,hn=>by
  rw[zb1] at h
  by_cases c:0<=(if B.no then za1 body B.aS else -1)
  ·rw[if_pos c] at h
   by_cases hb:B.no=true
   ·rw[if_pos hb] at c;omega
   ·rw[if_neg hb] at c;omega
  ·rw[if_neg c] at h;rcases List.mem_cons.1 hA with rfl | hA
   ·rw[if_pos hn] at c;omega
   ·exact znh r h A hA hn
theorem zmj:∀ (rs:List yN),zbf rs<0->∀ R∈rs,za1 R.body R.head.aS<0/\zb1 R.body R.body<0
 | [],_,R,hR=>by cases hR
 | Q::r,h,R,hR=>by
  rw[zbf] at h
  split at h
  ·omega
  ·rename_i c;rcases List.mem_cons.1 hR with rfl | hR
   ·unfold ze6 at c
    split at c
    ·omega
    ·constructor <;> omega
   ·exact zmj r h R hR
theorem zwq {body:List yR}{v:B8}(h:zp1 v body=true):∃ a∈yed body,((true,v):zb8)∈a.ts:=by
 unfold zp1 at h;obtain⟨A,hA,h⟩:=List.any_eq_true.1 h;unfold z3m at h;simp only[Bool.and_eq_true,List.any_eq_true] at h;obtain⟨hn,u,hu,hx⟩:=h;unfold MP at hx;simp only[Bool.and_eq_true] at hx;have e:u.text=v:=zU.1 hx.2;refine⟨pa A,List.mem_map.2 ⟨A,List.mem_filter.2 ⟨hA,hn⟩,rfl⟩,List.mem_map.2 ⟨u,hu,?_⟩⟩;unfold aR;rw[hx.1,e]
variable {s:B8}
theorem ybd (h:(xJ s).1=true):zbf (vA s).1<0:=by
 unfold xJ at h
 by_cases c0:800<s.size
 ·rw[if_pos c0] at h;cases h
 rw[if_neg c0] at h
 by_cases c1:0<=(vA s).2.2
 ·rw[if_pos c1] at h;cases h
 rw[if_neg c1] at h
 by_cases c2:0<=(zH s).1
 ·rw[if_pos c2] at h;cases h
 rw[if_neg c2] at h
 by_cases c3:0<=zbf (vA s).1
 ·rw[if_pos c3] at h;cases h
 omega
theorem zh3 (h:(xJ s).1=true){rp:List PR}(aO:rp.map (·.R)=(zO s).2.2.1)(cT:∀ r∈rp,r.bs.map (·.1)=r.R.body):z5f (zH s).2 (vA s).1 rp:=by
 have g:=zdo h;have F4:=g.rules;have sK:=zmj _ (ybd h);have je:∀ x∈(zO s).2.2.1.flatMap xV,zZ (zH s).2 x.1=some x.2:=by
  have:=(zrz _ _ g.agree).2;rw[g.met] at this;exact this
 have yn:∀ r∈rp,∃ R∈(vA s).1,lS R r:=λ r hr=>by
  have:r.R∈(vA s).1.map yO:=by rw[<-F4,<-aO];exact List.mem_map.2 ⟨r,hr,rfl⟩
  obtain⟨R,hR,e⟩:=List.mem_map.1 this;exact⟨R,hR,e.symm,cT r hr⟩
 refine⟨λ R hR=>?_,yn,λ r hr=>?_⟩
 ·have:yO R∈rp.map (·.R):=by rw[aO,F4];exact List.mem_map.2 ⟨R,hR,rfl⟩
  obtain⟨r,hr,e⟩:=List.mem_map.1 this;exact⟨r,hr,e,cT r hr⟩
 ·obtain⟨R,hR,hrel⟩:=yn r hr;have ak:r.R∈(zO s).2.2.1:=by rw[<-aO];exact List.mem_map.2 ⟨r,hr,rfl⟩
  have hw:=zsc s r.R ak;have hb:=g.body r.R ak;have nD:∀ x∈r.bs,x.1∈r.R.body:=λ x hx=>by rw[<-cT r hr];exact List.mem_map.2 ⟨x,hx,rfl⟩
  refine⟨?_,⟨hw.1,je (r.R.pd,r.R.ts.length) (List.mem_flatMap.2 ⟨r.R,ak,by simp[xV]⟩)⟩,λ x hx=>⟨hw.2 _ (nD x hx),je (x.1.pd,x.1.ts.length) (List.mem_flatMap.2 ⟨r.R,ak,?_⟩)⟩,λ t ht hv=>?_,λ x hx t ht hv=>?_⟩
  ·rw[<-cT r hr,List.length_map] at hb;exact hb
  ·simp only[xV,List.mem_cons,List.mem_map];exact .inr ⟨x.1,nD x hx,rfl⟩
  ·rw[hrel.hd] at ht;obtain⟨u,hu,rfl⟩:=List.mem_map.1 ht;have uV:u.isVar=true:=hv;have:=zwq (zuo _ (sK R hR).1 u hu uV);rw[hrel.pos];unfold aR;rw[uV];exact this
  ·rw[hrel.neg] at hx;obtain⟨A,hA,rfl⟩:=List.mem_map.1 hx;obtain⟨hA,hn⟩:=List.mem_filter.1 hA;obtain⟨u,hu,rfl⟩:=List.mem_map.1 ht;have uV:u.isVar=true:=hv;have:=zwq (zuo _ (znh _ (sK R hR).2 A hA hn) u hu uV);rw[hrel.pos];unfold aR;rw[uV];exact this
theorem z2j (q:B8):zc3 q=if zm4 q then some (pa (zat q)) else none:=by
 have h:=zth q 0 (-1) (by decide) (Nat.zero_le _);unfold zc3 zm4
 cases hP:yV q 0 with
 | no r=>
  rw[hP] at h;have h':(yD q 0 (-1)).2.2=((zD q r).2.1:Int):=h;rw[h',if_neg];simp;intro h;omega
 | yes p pd ts pl=>
  rw[hP] at h;obtain⟨h1,h2,h3,_,h5⟩:=h;rw[h1];have K:=ze0 q p h5;have e:(⟨pd,ts⟩:yY)=pa (zat q):=by rw[h2,h3];rfl
  simp only
  by_cases c:(tok q p).kind=46
  ·rw[if_pos (K.k0.2 c),if_pos (by simp[c]),e]
  ·rw[if_neg (λ h=>c (K.k0.1 h)),if_neg (by simp[c])]
theorem z2k {q:B8}{A:yY}(h:zc3 q=some A):zn9 A.p A.ts:=by
 unfold zc3 at h
 split at h
 ·cases h
 ·rename_i p pd ts pl hp
  split at h
  ·cases h;exact Mk hp
  ·cases h
theorem zy7 (ps:P9)(A:yY):zb6 ps A=zdu ps A.p A.ts.length:=by
 unfold zb6
 cases hn:zZ ps A.p with
 | none=>exact (by rw[qM,hn]:zdu ps A.p A.ts.length=true) ▸ rfl
 | some m=>
  by_cases e:m=A.ts.length
  ·have:zdu ps A.p A.ts.length=true:=by rw[qM,hn,e];simp
   rw[this];simp[e]
  ·have:¬ zdu ps A.p A.ts.length=true:=by rw[qM,hn];simpa using e
   simp[e,this]
theorem z5m (ps:P9)(q:B8):vF ps q=if zw9 ps q then some (pa (zat q)) else none:=by
 unfold vF zw9;rw[z2j]
 by_cases c:zm4 q=true
 ·rw[if_pos c,c];simp only[Bool.true_and];rw[zy7];have:(pa (zat q)).ts.length=(yD q 0 (-1)).1.length:=by simp[pa,zat]
  rw[this];rfl
 ·rw[if_neg c];have:zm4 q=false:=by simpa using c
  rw[this];simp
end
section
def zim:List Nat->List Nat->Bool
 | [],[]=>false
 | [],_::_=>true
 | _::_,[]=>false
 | a::x,b::y=>if a<b then true else if b<a then false else zim x y
theorem MM:∀ x:List Nat,zim x x=false
 | []=>rfl
 | a::x=>by rw[zim,if_neg (Nat.lt_irrefl a),if_neg (Nat.lt_irrefl a)];exact MM x
theorem zin:∀ {x y z:List Nat},zim x y=true->zim y z=true->zim x z=true
 | [],[],_,h,_=>by cases h
 | [],_::_,[],_,h=>by cases h
 | [],_::_,_::_,_,_=>rfl
 | _::_,[],_,h,_=>by cases h
 | _::_,_::_,[],_,h=>by cases h
 | a::x,b::y,c::z,h,k=>by
  rw[zim] at h k ⊢
  by_cases h1:a<b
  ·by_cases h2:b<c
   ·rw[if_pos (by omega)]
   ·rw[if_neg h2] at k
    by_cases h3:c<b
    ·rw[if_pos h3] at k;cases k
    ·rw[if_pos (by omega)]
  ·rw[if_neg h1] at h
   by_cases h4:b<a
   ·rw[if_pos h4] at h;cases h
   ·rw[if_neg h4] at h;have:a=b:=by omega
    subst this
    by_cases h2:a<c
    ·rw[if_pos h2]
    ·rw[if_neg h2] at k ⊢
     by_cases h3:c<a
     ·rw[if_pos h3] at k;cases k
     ·rw[if_neg h3] at k ⊢;exact zin h k
theorem z1s:∀ {x y:List Nat},zim x y=false->zim y x=false->x=y
 | [],[],_,_=>rfl
 | [],_::_,h,_=>by cases h
 | _::_,[],_,h=>by cases h
 | a::x,b::y,h,k=>by
  rw[zim] at h k
  by_cases h1:a<b
  ·rw[if_pos h1] at h;cases h
  ·by_cases h2:b<a
   ·rw[if_pos h2] at k;cases k
   ·rw[if_neg h1,if_neg h2] at h;rw[if_neg h2,if_neg h1] at k;rw[z1s h k,show a=b by omega]
def zm6 (x y:Nat):Int:=if x<y then -1 else if y<x then 1 else 0
def zpj:List Nat->List Nat->Int
 | [],[]=>0
 | [],_::_=>-1
 | _::_,[]=>1
 | a::x,b::y=>if zm6 a b=0 then zpj x y else zm6 a b
theorem zv1:∀ x y:List Nat,zpj x y<0↔zim x y=true
 | [],[]=>by simp[zpj,zim]
 | [],_::_=>by simp[zpj,zim]
 | _::_,[]=>by simp[zpj,zim]
 | a::x,b::y=>by
  have ih:=zv1 x y;rw[zpj,zim];unfold zm6
  by_cases h1:a<b
  ·simp[h1]
  ·by_cases h2:b<a
   ·simp[h1,h2]
   ·simp only[if_neg h1,if_neg h2,if_true];exact ih
end
section
def qQ (K N:List (Th × Nat)):Prop:=∀ t,(∃ n,(t,n)∈K)↔∃ n,(t,n)∈N
theorem zdr (K:List (Th × Nat))(t:Th):(z7 K t).isSome=true↔∃ n,(t,n)∈K:=by
 constructor
 ·intro h;obtain⟨n,hn⟩:=Option.isSome_iff_exists.1 h;exact⟨n,vP hn⟩
 ·rintro⟨n,hn⟩
  cases h:z7 K t with
  | some _=>rfl
  | none=>exact absurd hn (j8 h n)
variable {K N:List (Th × Nat)}
theorem qQ.look (h:qQ K N)(t:Th):(z7 K t).isSome=(z7 N t).isSome:=by
 rw[Bool.eq_iff_iff,zdr,zdr];exact h t
theorem qQ.jl {K N:List (Th × Nat)}(h:qQ K N):∀ (pos:List yY) (e x:zX),x∈zQ K pos e->x∈zQ N pos e
 | [],e,x,hx=>hx
 | a::r,e,x,hx=>by
  rw[zQ] at hx ⊢;obtain⟨p,hp,hx⟩:=List.mem_flatMap.1 hx;obtain⟨n,hn⟩:=(h p.1).1 ⟨p.2,hp⟩;refine List.mem_flatMap.2 ⟨_,hn,?_⟩
  cases hm:zV e a p.1 with
  | none=>rw[hm] at hx;cases hx
  | some e1=>rw[hm] at hx;exact h.jl r e1 x hx
theorem qQ.symm (h:qQ K N):qQ N K:=λ t=>(h t).symm
theorem qQ.ways (h:qQ K N)(neg pos:List yY)(e x:zX):x∈qO K neg pos e↔x∈qO N neg pos e:=by
 have hd:jV K neg x=jV N neg x:=by
  unfold jV;have:(λ a:yY=>(z7 K (zT x a)).isSome)=λ a=>(z7 N (zT x a)).isSome:=funext λ a=>h.look _
  rw[this]
 unfold qO;rw[List.mem_filter,List.mem_filter,hd];exact and_congr_left λ _=>⟨h.jl pos e x,h.symm.jl pos e x⟩
end
section
structure lT (N:List (Th × Nat))(rp:List PR)(t:Th)(i:Nat)(row:List Nat):Prop where
 low:∀ j (h:j<rp.length),j<i->zar N rp[j] t=[]
 lt:i<rp.length
 mem:row∈zar N rp[i] t
 least:∀ vb∈zar N rp[i] t,zim vb row=false
theorem lT.uniq {N:List (Th × Nat)}{rp:List PR}{t:Th}{i j:Nat}{x y:List Nat}(h:lT N rp t i x)(k:lT N rp t j y):i=j/\x=y:=by
 have e:i=j:=by
  rcases Nat.lt_trichotomy i j with h1 | h1 | h1
  ·have:=h.mem;rw[k.low i h.lt h1] at this;cases this
  ·exact h1
  ·have:=k.mem;rw[h.low j k.lt h1] at this;cases this
 subst e;exact⟨rfl,z1s (k.least _ h.mem) (h.least _ k.mem)⟩
end
section
open Go.RowKit Go.Maps
def z4z (A:yY):Option Th:=if A.ts.any (·.1) then none else some (A.p,A.ts.map (·.2))
theorem zi0 {fn:Func}{p u:Tmp}(h:fn.results=#[.cell p 88,.tmp u])(tmps:Array Value)(w:W8)(g:Nat)(t:Th)(hp:tmps.getD p undef=.pointer (some ⟨g,0,none⟩))(hg:w.heap[g]?=some (.cells (zJ t).toArray 88 (0,0))):
  (results fn tmps).run Tryz.prog w=.ok (.tuple #[thV t,tmps.getD u undef]) w:=by
 have rf:tmps[p]?.getD undef=.pointer (some ⟨g,0,none⟩):=by simpa using hp
 have cC:tmps.getD u undef=tmps[u]?.getD undef:=by simp
 rw[cC];simp[results,h,rf,asAddr,run_loadVar_row w g _ 88 _ _ _ hg Tryz.underlying88 rfl (by rw[zgd];rfl),thV]
def zva (w:W8)(r:Option Th)(en:Ending)(w':W8):Prop:=Below w.heap.size w w'/\en=.returned (.tuple #[thV (r.getD ({ data:=#[] },[])),.bool r.isSome])
theorem z8g (w:W8)(base:Nat)(A:yY)(a:O8)(c:Nat)(h:w.ownsRow base 191 1 (.slice a A.ts.length c) A.ts.length (A.ts.map zaz))(h4:A.ts.length<=4):
  Calls Tryz.prog 65 #[.agg #[.string A.p,.slice a A.ts.length c]] w (zva w (z4z A)):=by
 have H:=zC h;clear h;have a1:=zkq;have a2:=zie;have a3:=zkp;go_enter Tryz.func65,Tryz.ntmps65;go_upto_region 2 with fail;generalize hw0:World.alloc (World.alloc (World.alloc w _) _) _=w0;have k0:Below w.heap.size w w0:=by
  rw[<-hw0];exact (((Below.refl w.heap.size w).alloc L9 _).alloc (by simp) _).alloc (by simp only[World.size_alloc];omega) _
 have x1:w0.heap[w.heap.size]?=some (.cells #[.string A.p,.slice a A.ts.length c] 79 (0,0)):=by
  rw[<-hw0,Below.heap_alloc _ _ _ (by simp only[World.size_alloc];omega),Below.heap_alloc _ _ _ (by simp)];exact heap_alloc_new w _
 have x2:w0.heap[w.heap.size+1]?=some (.cells (zJ ⟨{ data:=#[] },[]⟩).toArray 88 (0,0)):=by
  rw[<-hw0,Below.heap_alloc _ _ _ (by simp)];have:=heap_alloc_new (w.alloc (.cells #[.string A.p,.slice a A.ts.length c] 79)) (.cells (zJ ⟨{ data:=#[] },[]⟩).toArray 88);rw[World.size_alloc] at this;exact this
 have x3:w0.heap[w.heap.size+1+1]?=some (.cells (zJ ⟨A.p,[]⟩).toArray 88 (0,0)):=by
  rw[<-hw0];have:=heap_alloc_new ((w.alloc (.cells #[.string A.p,.slice a A.ts.length c] 79)).alloc (.cells (zJ ⟨{ data:=#[] },[]⟩).toArray 88)) (.cells (zJ ⟨A.p,[]⟩).toArray 88);rw[World.size_alloc,World.size_alloc] at this;exact this
 have s0:w.heap.size+1+1+1=w0.heap.size:=by rw[<-hw0];simp
 have ee:=zP (zA H) (λ g e=>k0.block g ((zA H).lt g e).2);have HG:=zC (λ g (e1:(Value.slice a A.ts.length c).ownBlock=some g)=>((zA H).lt g e1).2);clear hw0 H;have fH:=zC s0;have iO:=zC x3;have oF:=zC x2;have na:=zC ee;have cq:=zC k0;obtain⟨p1,-⟩:=zB x1 1;simp only[List.getElem?_toArray,List.getElem?_cons_zero,List.getElem?_cons_succ] at p1;clear x1 x2 x3 ee k0 s0;go_wp2_with fail
 go_loopg [15] A.ts.length (λ gg i wr=>∃ (k:Nat) (L:List B8),k<=A.ts.length/\gg=A.ts.length-k/\i=.int .i64 k/\L=(A.ts.take k).map (·.2)/\(A.ts.take k).any (·.1)=false/\wr.heap[w.heap.size+1+1]?=some (.cells (zJ ⟨A.p,L⟩).toArray 88 (0,0))/\yC [w.heap.size+1+1] w0 wr)
 exact⟨0,[],Nat.zero_le _,rfl,rfl,rfl,rfl,zA iO,yC.refl _ _⟩
 case round=>
  obtain⟨k,L,hk,fM,rfl,hL,oO,hx,cV⟩:=hrel;have ik:L.length=k:=by rw[hL];simp;omega
  have sY:=zA fH;have lu:=zC (show Below w.heap.size w wr from ⟨cV.os.trans (zA cq).os,cV.tape.trans (zA cq).tape,cV.output.trans (zA cq).output,Nat.le_trans (zA cq).size cV.size,λ i hi=>(cV.block i (by omega) (by simp;omega)).trans ((zA cq).block i hi)⟩);have HX:=zC hx;have gw:=zC cV;have HL:=zC hL;have p8:=zC ik;have AV:=zC oO;have qc:=zC ((cV.block (w.heap.size+1) (by omega) (by simp)).trans (zA oF))
  by_cases aN:k<A.ts.length
  ·obtain⟨g,rfl,nB,dG,dx,hc⟩:=zuw (zA na) k aN;have eP:=zA HG g rfl;have gD:wr.cell? ⟨g,k,none⟩=some (zaz A.ts[k]):=((zA gw).cell (p:=⟨g,k,none⟩) nB (by simp;omega)).trans hc;obtain⟨dV,Fx⟩:=zB hx (1+k);replace dV:wr.cell? ⟨w.heap.size+1+1,1+k,none⟩=some (.string (xF L k)):=by
    rw[dV,List.getElem?_toArray];exact zcj ⟨A.p,L⟩ (by omega)
   have gW:(k:Int)<A.ts.length:=(by omega);have jq:(1+k:Int)<5:=(by omega);clear hc sY hx cV hL ik oO
   cases hv:A.ts[k].1 with
   | false=>
    have nA:wr.cell? ⟨g,k,none⟩=some (.iface 193 (.string A.ts[k].2)):=(by rw[gD];unfold zaz;rw[hv];rfl);have HV:=zC hv;clear gD hv;go_wp2_with fail;go_roundg (A.ts.length-(k+1))
    case measure=>omega
    case rel=>
     have:=zpb (zA HX) (by rw[zA p8];omega) A.ts[k].2;rw[zA p8] at this;refine⟨k+1,L++[A.ts[k].2],by omega,rfl,by go_num,?_,?_,this,(zA gw).setCell (by simp) _⟩
     ·rw[List.take_succ_eq_append_getElem aN,List.map_append,zA HL];rfl
     ·rw[List.take_succ_eq_append_getElem aN,List.any_append,zA AV];simp[zA HV]
   | true=>
    have nA:wr.cell? ⟨g,k,none⟩=some (.iface 130 (.string A.ts[k].2)):=(by rw[gD];unfold zaz;rw[hv];rfl);have HE:=zC (show z4z A=none by unfold z4z;rw[if_pos (List.any_eq_true.2 ⟨_,List.getElem_mem aN,hv⟩)]);clear gD hv;go_wp2_with (first | (refine wpList_store_row rfl 88 _ _ rfl _ _ rfl rfl _ _ (zA qc) (by rw[zgd];rfl) rfl (zd9 ({ data:=#[] },[])) ?_) | fail);refine bodyPost_ret (v:=.tuple #[thV ({ data:=#[] },[]),.bool false]) (zi0 Tryz.results65 _ _ _ _ rfl (setRow_heap _ _ _ _ _ _ (zA qc))) rfl ?_;rw[zA HE];exact⟨z6 (zA lu) (by omega) _,rfl⟩
  ·have HE:=zC (show z4z A=some (A.p,L) by unfold z4z;rw[List.take_of_length_le (by omega)] at hL oO;rw[oO,hL];rfl);clear sY hx cV hL ik oO;go_wp2_with (first | (refine wpList_load_row rfl 88 _ rfl _ rfl _ _ _ _ (zA HX) Tryz.underlying88 rfl (by rw[zgd];rfl) ?_) | (refine wpList_store_row rfl 88 _ _ rfl _ _ rfl rfl _ _ (zA qc) (by rw[zgd];rfl) rfl (zd9 _) ?_) | fail);refine bodyPost_ret (v:=.tuple #[thV (A.p,L),.bool true]) (zi0 Tryz.results65 _ _ _ _ rfl (setRow_heap _ _ _ _ _ _ (zA qc))) rfl ?_;rw[zA HE];exact⟨z6 (zA lu) (by omega) _,rfl⟩
end
section
open Go.RowKit Go.Maps
attribute [local go_sem ↓] vU xY xX xW
attribute [local go_sem] vD vC
def vM (ps:P9)(s:B8):Option Th:=(vF ps s).bind z4z
theorem TV.result {fn:Func}{p u:Tmp}(h:fn.results=#[.cell p 88,.tmp u]){w:W8}{g:Nat}{t:Th}(hg:TV w g t)(tmps:Array Value)(hp:tmps.getD p undef=.pointer (some ⟨g,0,none⟩)):(results fn tmps).run Tryz.prog w=.ok (.tuple #[thV t,tmps.getD u undef]) w:=zi0 h tmps w g t hp hg
theorem zh1 (w:W8)(s:B8)(tb n:Nat)(ps:P9)(S:B8->Nat)(h:qS Tryz.prog 9 w tb n (stV ps S))(hs:s.size<=2000000):
  Calls Tryz.prog 41 #[.string s,.map (some tb)] w (zva w (vM ps s)):=by
 have fZ:=h.lt;have k0:Below w.heap.size w (w.alloc (.cells (zJ ({ data:=#[] },[])).toArray 88)):=B9.alloc L9 _;have HA:=zC (zh0 (w.alloc (.cells (zJ ({ data:=#[] },[])).toArray 88)) s tb n ps S (h.block (k0.block tb fZ)) hs);have cq:=zC k0;clear h k0;go_enter Tryz.func41,Tryz.ntmps41;go_wp2_with fail;refine (zA HA).mono ?_;rintro e w1 ⟨aT,hp⟩;have cB:w.heap.size+1<=w1.heap.size:=by have:=aT.size;simpa using this
 have fA:Below w.heap.size w w1:=(zA cq).trans (aT.mono (by simp));have fY:TV w1 w.heap.size ({ data:=#[] },[]):=(aT.block _ (by simp)).trans (heap_alloc_new w _)
 cases hP:vF ps s with
 | none=>
  rw[hP] at hp;subst hp;have HN:=zC (show vM ps s=none by unfold vM;rw[hP];rfl);have iF:TV (w1.alloc (.cells #[.string { data:=#[] },.slice none 0 0] 79)) w.heap.size ({ data:=#[] },[]):=fY.alloc _;have dj:(zsw (.pointer (some ⟨w.heap.size,0,none⟩)) (.agg #[.string { data:=#[] },.string { data:=#[] },.string { data:=#[] },.string { data:=#[] },.string { data:=#[] }])).run Tryz.prog (w1.alloc (.cells #[.string { data:=#[] },.slice none 0 0] 79))=.ok () ((w1.alloc (.cells #[.string { data:=#[] },.slice none 0 0] 79)).setRow w.heap.size (zJ ({ data:=#[] },[])).toArray):=iF.store ({ data:=#[] },[]);have Bu:=zC iF;have HB:=zC (fA.alloc fA.size (.cells #[.string { data:=#[] },.slice none 0 0] 79));have hz:=z3k;clear hP fY aT fA iF;go_wp2_with fail;refine bodyPost_ret (v:=.tuple #[thV ({ data:=#[] },[]),.bool false]) (TV.result Tryz.results41 (setRow_heap _ _ _ _ _ _ (zA Bu)) _ rfl) rfl ?_;rw[zA HN];exact⟨z6 (zA HB) L9 _,rfl⟩
 | some A=>
  rw[hP] at hp;obtain⟨a,c,rfl,aE⟩:=hp;obtain⟨hsz,h4⟩:A.p.size<=s.size/\A.ts.length<=4:=by
   unfold vF at hP
   split at hP
   ·cases hP
   ·rename_i A' hA
    split at hP
    ·cases hP;exact zlq hA
    ·cases hP
  have xj:=zC (show vM ps s=z4z A by unfold vM;rw[hP];rfl);have HO:=zC (z8g (w1.alloc (.cells #[.string A.p,.slice a A.ts.length c] 79)) _ A a c (aE.alloc _) h4);have fu:=fA.alloc fA.size (.cells #[.string A.p,.slice a A.ts.length c] 79);have zk:TV (w1.alloc (.cells #[.string A.p,.slice a A.ts.length c] 79)) w.heap.size ({ data:=#[] },[]):=fY.alloc _;have rF:=zC fu;have Ic:=zC zk;clear hP fY aT fA aE fu zk;generalize z4z A=R at *;go_wp2_with fail;refine (zA HO).mono ?_;rintro e w2 ⟨aU,rfl⟩;have fc:TV w2 w.heap.size ({ data:=#[] },[]):=(zA Ic).below aU;have dj:=fc.store (R.getD ({ data:=#[] },[]));have rO:=zC fc;have ep:=zC ((zA rF).trans (aU.mono (zA rF).size));clear aU fc;go_wp2_with fail;refine bodyPost_ret (v:=.tuple #[thV (R.getD ({ data:=#[] },[])),.bool R.isSome]) (TV.result Tryz.results41 (setRow_heap _ _ _ _ _ _ (zA rO)) _ rfl) rfl ?_;rw[zA xj];exact⟨z6 (zA ep) L9 _,rfl⟩
def xP (ps:P9)(S:B8->Nat)(K:List (Th × Nat))(t:Th):Nat:=if (zZ ps t.1).isSome then (if (z7 K t).isSome then S t.1 else S t.1+1) else 0
theorem z4o (w:W8)(tb n kb:Nat)(ps:P9)(S:B8->Nat)(K:List (Th × Nat))(t:Th)(h:qS Tryz.prog 9 w tb n (stV ps S))(hm:jA w kb K)(ht:zbj t)(hS:S t.1<=1000000):
  Calls Tryz.prog 66 #[.map (some tb),.map (some kb),thV t] w λ e w'=>e=.returned (.int .i64 (xP ps S K t:Nat))/\Below w.heap.size w w':=by
 have fZ:=h.lt;have du:=hm.lt;have k0:Below w.heap.size w (w.alloc (.cells (zJ t).toArray 88)):=B9.alloc L9 _;have GN:=h.block (k0.block tb fZ);have q0:(w.alloc (.cells (zJ t).toArray 88)).cell? ⟨w.heap.size,0,none⟩=some (.string t.1):=(zB (TV.new w t) 0).1;have pe:t.1.size<=maxLen:=by have:=ht.pd;unfold maxLen;simp only[Th.p] at this;omega
 have HM:=zC hm;have cq:=zC k0;obtain⟨ct,eM⟩:∃ ct,ct=(zJ t).toArray:=⟨_,rfl⟩;have fw:=zC eM;unfold thV;rw[<-eM] at q0 GN cq ⊢;clear h hm k0 eM
 cases hn:zZ ps t.1 with
 | none=>
  have HE:=zC (show xP ps S K t=0 by unfold xP;rw[hn];rfl);have hu:(stV ps S t.1).getD (.agg #[.string { data:=#[] },.int .i64 0,.int .i64 0])=.agg #[.string { data:=#[] },.int .i64 0,.int .i64 0]:=by unfold stV;rw[hn];rfl
  have hc:(stV ps S t.1).isSome=false:=by unfold stV;rw[hn];rfl
  clear hn;go_enter Tryz.func66,Tryz.ntmps66;go_wp2_with (at_lookup;refine vE _ rfl _ _ 73 rfl 9 185 Tryz.underlying9 Tryz.underlying73 (Tryz.zeroValue185 _) tb n (stV ps S) rfl GN t.1 rfl pe _ hu _ hc ?_);go_ret;exact⟨by rw[zA HE];rfl,(zA cq).alloc (zA cq).size _⟩
 | some m=>
  have hu:(stV ps S t.1).getD (.agg #[.string { data:=#[] },.int .i64 0,.int .i64 0])=.agg #[.string t.1,.int .i64 (S t.1),.int .i64 m]:=by unfold stV;rw[hn];rfl
  have hc:(stV ps S t.1).isSome=true:=by unfold stV;rw[hn];rfl
  have HW:=zC (show xP ps S K t=if (z7 K t).isSome then S t.1 else S t.1+1 by unfold xP;rw[hn];rfl);have bB:Below w.heap.size w ((w.alloc (.cells ct 88)).alloc (.cells #[.string t.1,.int .i64 (S t.1),.int .i64 m] 185)):=(zA cq).alloc (zA cq).size _;have tB:(zej (.pointer (some ⟨w.heap.size,0,none⟩))).run Tryz.prog ((w.alloc (.cells ct 88)).alloc (.cells #[.string t.1,.int .i64 (S t.1),.int .i64 m] 185))=.ok (thV t) ((w.alloc (.cells ct 88)).alloc (.cells #[.string t.1,.int .i64 (S t.1),.int .i64 m] 185)):=by rw[zA fw];exact ((TV.new w t).alloc _).load
  have lB:=((zA HM).block (bB.block kb du)).look ht Tryz.underlying83;have Ms:=zC bB;clear hn bB
  cases hf:(z7 K t).isSome with
  | true=>
   have HE:=zC (show xP ps S K t=S t.1 by rw[zA HW,hf];rfl);rw[hf] at lB;clear hf;go_enter Tryz.func66,Tryz.ntmps66;go_wp2_with (at_lookup;refine vE _ rfl _ _ 73 rfl 9 185 Tryz.underlying9 Tryz.underlying73 (Tryz.zeroValue185 _) tb n (stV ps S) rfl GN t.1 rfl pe _ hu _ hc ?_);go_ret;exact⟨by rw[zA HE];rfl,zA Ms⟩
  | false=>
   have HE:=zC (show xP ps S K t=S t.1+1 by rw[zA HW,hf];rfl);rw[hf] at lB;clear hf;go_enter Tryz.func66,Tryz.ntmps66;go_wp2_with (at_lookup;refine vE _ rfl _ _ 73 rfl 9 185 Tryz.underlying9 Tryz.underlying73 (Tryz.zeroValue185 _) tb n (stV ps S) rfl GN t.1 rfl pe _ hu _ hc ?_);go_ret;exact⟨by rw[zA HE];simp,zA Ms⟩
end
section
open Go.RowKit
def zpe (A:yR):Bool:=A.aS.all λ t=>!t.isVar
end
section
open Go.RowKit
def u8c (x:Nat):Value:=.int .u8 ((x:Int)%256)
end
section
open Go.RowKit
def zf5 (B:Nat->Bool)(i:Nat)(v:Bool):Nat->Bool:=λ j=>if j=i then v else B j
def j9 (B:Nat->Bool)(fr:List Nat):Nat->Bool:=fr.foldl (λ B x=>zf5 B x true) B
theorem zpm {B:Nat->Bool}{fr:List Nat}{j:Nat}(h:j<fr.length):j9 B (fr.take (j+1))=zf5 (j9 B (fr.take j)) fr[j] true:=by
 unfold j9;rw[List.take_succ_eq_append_getElem h,List.foldl_append];rfl
end
section
open Go.RowKit Go.Maps
theorem ybo (A:yR):z4z (pa A)=if zpe A then some (thA A) else none:=by
 unfold z4z zpe thA pa;simp only[List.any_map,List.map_map];have e:(A.aS.any ((λ x=>x.1) ∘ aR))=!(A.aS.all λ t=>!t.isVar):=by
  induction A.aS with
  | nil=>rfl
  | cons t r ih=>
   rw[List.any_cons,List.all_cons,ih]
   show (t.isVar||_)=_
   cases t.isVar <;> simp
 rw[e]
 cases (A.aS.all λ t=>!t.isVar) with
 | true=>rfl
 | false=>rfl
theorem zwy (ps:P9)(q:B8):vM ps q=if zw9 ps q&&zpe (zat q) then some (thA (zat q)) else none:=by
 unfold vM;rw[z5m]
 cases zw9 ps q with
 | false=>rfl
 | true=>
  rw[if_pos rfl,Bool.true_and];exact ybo (zat q)
end
end Go.Proofs.YtldkpahaocjdpaaGreat
