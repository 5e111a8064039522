/-
  The reference's Ask.
-/
import Derived.Test.YtldkpahaocjdpaaGreatR28
import Derived.Test.YtldkpahaocjdpaaGreatR29
import Derived.Laws.BytesArg
set_option maxHeartbeats 16000000
set_option maxRecDepth 1000000
namespace Go.Proofs.YtldkpahaocjdpaaGreat
section
open Go.RowKit
def zas (s:B8):yX:=⟨(tok s 0).text,(yD s 0 (-1)).1,false,(tok s 0).at_,0⟩
def zoi (s:B8):Bool:=decide ((yD s 0 (-1)).2.2<0)&&(tok s (yD s 0 (-1)).2.1).kind==46
def zyx (ps:P9)(s:B8):Bool:=zoi s&&zd1 ps (tok s 0).text (yD s 0 (-1)).1.length
end
section
theorem zs8:∀ (L ps:P9),qS L ps->(∀ k n,zV ps k=some n->zV (j7 L ps) k=some n)/\∀ x∈L,zV (j7 L ps) x.1=some x.2
 | [],ps,_=>⟨λ _ _ h=>h,by simp⟩
 | x::r,ps,h=>by
  obtain⟨h1,h2⟩:=h;obtain⟨i1,i2⟩:=zs8 r (zan ps x.1 x.2) h2;rw[j7];have hx:zV (zan ps x.1 x.2) x.1=some x.2:=by rw[zjb h1,if_pos rfl]
  refine⟨λ k n hk=>i1 k n ?_,λ y hy=>?_⟩
  ·rw[zjb h1]
   by_cases e:k=x.1
   ·rw[if_pos e];rw[qK] at h1;rw[e] at hk;rw[hk] at h1;have h3:n=x.2:=(by simpa using h1);rw[h3]
   ·rw[if_neg e];exact hk
  ·rcases List.mem_cons.1 hy with rfl | hy
   ·exact i1 _ _ hx
   ·exact i2 y hy
theorem zv6 {body:List yX}:∀ (ts:List zen),za2 body ts<0->∀ t∈ts,t.isVar=true->zre t.text body=true
 | [],_,t,ht,_=>by cases ht
 | u::r,h,t,ht,hv=>by
  rw[za2] at h
  split at h
  ·omega
  ·rename_i c;rcases List.mem_cons.1 ht with rfl | ht
   ·simp only[hv,Bool.true_and,Bool.not_eq_true',Bool.not_eq_false] at c;exact c
   ·exact zv6 r h t ht hv
theorem zo0 {body:List yX}:∀ (l:List yX),zb3 body l<0->∀ A∈l,A.no=true->za2 body A.aS<0
 | [],_,A,hA,_=>by cases hA
 | B::r,h,A,hA,hn=>by
  rw[zb3] at h
  by_cases c:0<=(if B.no then za2 body B.aS else -1)
  ·rw[if_pos c] at h
   by_cases hb:B.no=true
   ·rw[if_pos hb] at c;omega
   ·rw[if_neg hb] at c;omega
  ·rw[if_neg c] at h;rcases List.mem_cons.1 hA with rfl | hA
   ·rw[if_pos hn] at c;omega
   ·exact zo0 r h A hA hn
theorem zmw:∀ (rs:List yT),zbh rs<0->∀ R∈rs,za2 R.body R.head.aS<0/\zb3 R.body R.body<0
 | [],_,R,hR=>by cases hR
 | Q::r,h,R,hR=>by
  rw[zbh] at h
  split at h
  ·omega
  ·rename_i c;rcases List.mem_cons.1 hR with rfl | hR
   ·unfold zfc at c
    split at c
    ·omega
    ·constructor <;> omega
   ·exact zmw r h R hR
theorem zya {body:List yX}{v:B8}(h:zre v body=true):∃ a∈yfq body,((true,v):zca)∈a.ts:=by
 unfold zre at h;obtain⟨A,hA,h⟩:=List.any_eq_true.1 h;unfold z5c at h;simp only[Bool.and_eq_true,List.any_eq_true] at h;obtain⟨hn,u,hu,hx⟩:=h;unfold Nj at hx;simp only[Bool.and_eq_true] at hx;have e:u.text=v:=yB.1 hx.2;refine⟨pa A,List.mem_map.2 ⟨A,List.mem_filter.2 ⟨hA,hn⟩,rfl⟩,List.mem_map.2 ⟨u,hu,?_⟩⟩;unfold a8;rw[hx.1,e]
variable {s:B8}
theorem yct (h:(z7 s).1=true):zbh (vD s).1<0:=by
 unfold z7 at h
 by_cases c0:800<s.size
 ·rw[if_pos c0] at h;cases h
 rw[if_neg c0] at h
 by_cases c1:0<=(vD s).2.2
 ·rw[if_pos c1] at h;cases h
 rw[if_neg c1] at h
 by_cases c2:0<=(zF s).1
 ·rw[if_pos c2] at h;cases h
 rw[if_neg c2] at h
 by_cases c3:0<=zbh (vD s).1
 ·rw[if_pos c3] at h;cases h
 omega
theorem zfl (h:(z7 s).1=true){rp:List PR}(bE:rp.map (·.R)=(zJ s).2.2.1)(cT:∀ r∈rp,r.bs.map (·.1)=r.R.body):z6x (zF s).2 (vD s).1 rp:=by
 have g:=qR h;have F4:=g.rules;have sK:=zmw _ (yct h);have je:∀ x∈(zJ s).2.2.1.flatMap xS,zV (zF s).2 x.1=some x.2:=by
  have:=(zs8 _ _ g.agree).2;rw[g.met] at this;exact this
 have yn:∀ r∈rp,∃ R∈(vD s).1,mu R r:=λ r hr=>by
  have:r.R∈(vD s).1.map yU:=by rw[<-F4,<-bE];exact List.mem_map.2 ⟨r,hr,rfl⟩
  obtain⟨R,hR,e⟩:=List.mem_map.1 this;exact⟨R,hR,e.symm,cT r hr⟩
 refine⟨λ R hR=>?_,yn,λ r hr=>?_⟩
 ·have:yU R∈rp.map (·.R):=by rw[bE,F4];exact List.mem_map.2 ⟨R,hR,rfl⟩
  obtain⟨r,hr,e⟩:=List.mem_map.1 this;exact⟨r,hr,e,cT r hr⟩
 ·obtain⟨R,hR,hrel⟩:=yn r hr;have ak:r.R∈(zJ s).2.2.1:=by rw[<-bE];exact List.mem_map.2 ⟨r,hr,rfl⟩
  have hw:=ztk s r.R ak;have hb:=g.body r.R ak;have nD:∀ x∈r.bs,x.1∈r.R.body:=λ x hx=>by rw[<-cT r hr];exact List.mem_map.2 ⟨x,hx,rfl⟩
  refine⟨?_,⟨hw.1,je (r.R.pd,r.R.ts.length) (List.mem_flatMap.2 ⟨r.R,ak,by simp[xS]⟩)⟩,λ x hx=>⟨hw.2 _ (nD x hx),je (x.1.pd,x.1.ts.length) (List.mem_flatMap.2 ⟨r.R,ak,?_⟩)⟩,λ t ht hv=>?_,λ x hx t ht hv=>?_⟩
  ·rw[<-cT r hr,List.length_map] at hb;exact hb
  ·simp only[xS,List.mem_cons,List.mem_map];exact .inr ⟨x.1,nD x hx,rfl⟩
  ·rw[hrel.hd] at ht;obtain⟨u,hu,rfl⟩:=List.mem_map.1 ht;have uV:u.isVar=true:=hv;have:=zya (zv6 _ (sK R hR).1 u hu uV);rw[hrel.pos];unfold a8;rw[uV];exact this
  ·rw[hrel.neg] at hx;obtain⟨A,hA,rfl⟩:=List.mem_map.1 hx;obtain⟨hA,hn⟩:=List.mem_filter.1 hA;obtain⟨u,hu,rfl⟩:=List.mem_map.1 ht;have uV:u.isVar=true:=hv;have:=zya (zv6 _ (zo0 _ (sK R hR).2 A hA hn) u hu uV);rw[hrel.pos];unfold a8;rw[uV];exact this
theorem z36 (q:B8):zdd q=if zoi q then some (pa (zas q)) else none:=by
 have h:=zuy q 0 (-1) (by decide) (Nat.zero_le _);unfold zdd zoi
 cases hP:yK q 0 with
 | no r=>
  rw[hP] at h;have h':(yD q 0 (-1)).2.2=((zD q r).2.1:Int):=h;rw[h',if_neg];simp;intro h;omega
 | yes p pd ts pl=>
  rw[hP] at h;obtain⟨h1,h2,h3,_,h5⟩:=h;rw[h1];have K:=zeo q p h5;have e:(⟨pd,ts⟩:xG)=pa (zas q):=by rw[h2,h3];rfl
  simp only
  by_cases c:(tok q p).kind=46
  ·rw[if_pos (K.k0.2 c),if_pos (by simp[c]),e]
  ·rw[if_neg (λ h=>c (K.k0.1 h)),if_neg (by simp[c])]
theorem z38 {q:B8}{A:xG}(h:zdd q=some A):zpw A.p A.ts:=by
 unfold zdd at h
 split at h
 ·cases h
 ·rename_i p pd ts pl hp
  split at h
  ·cases h;exact ML hp
  ·cases h
theorem z00 (ps:P9)(A:xG):zb7 ps A=zd1 ps A.p A.ts.length:=by
 unfold zb7
 cases hn:zV ps A.p with
 | none=>exact (by rw[qK,hn]:zd1 ps A.p A.ts.length=true) ▸ rfl
 | some m=>
  by_cases e:m=A.ts.length
  ·have:zd1 ps A.p A.ts.length=true:=by rw[qK,hn,e];simp
   rw[this];simp[e]
  ·have:¬ zd1 ps A.p A.ts.length=true:=by rw[qK,hn];simpa using e
   simp[e,this]
theorem z64 (ps:P9)(q:B8):vC ps q=if zyx ps q then some (pa (zas q)) else none:=by
 unfold vC zyx;rw[z36]
 by_cases c:zoi q=true
 ·rw[if_pos c,c];simp only[Bool.true_and];rw[z00];have:(pa (zas q)).ts.length=(yD q 0 (-1)).1.length:=by simp[pa,zas]
  rw[this];rfl
 ·rw[if_neg c];have:zoi q=false:=by simpa using c
  rw[this];simp
end
section
structure zeu (ar lv:B8->Nat)(R:yH):Prop where
 f:z6u R
 hd:R.ts.length=ar R.pd
 ls:∀ l∈R.body,l.ts.length=ar l.pd
 safe:∀ t∈R.ts,t.1=true->∃ l∈R.body,l.neg=false/\t∈l.ts
 mQ:∀ l∈R.body,l.neg=true->∀ t∈l.ts,t.1=true->∃ m∈R.body,m.neg=false/\t∈m.ts
 pos:∀ l∈R.body,lv l.pd<=lv R.pd
 neg:∀ l∈R.body,l.neg=true->lv l.pd<lv R.pd
theorem zlu {x:Nat × Bool × B8 × List (Bool × B8)}:∀ {rules:List yH} {n:Nat},x∈zg7 n rules->∃ i R,rules[i]?=some R/\(x=(n+i,false,R.pd,R.ts)\/∃ l∈R.body,x=zj1 (n+i) l)
 | [],_,h=>by cases h
 | R::r,n,h=>by
  rw[zg7] at h;rcases List.mem_cons.1 h with h | h
  ·exact⟨0,R,rfl,.inl h⟩
  ·rcases List.mem_append.1 h with h | h
   ·obtain⟨l,hl,e⟩:=List.mem_map.1 h;exact⟨0,R,rfl,.inr ⟨l,hl,e.symm⟩⟩
   ·obtain⟨i,Q,h1,h2⟩:=zlu h;refine⟨i+1,Q,by rw[List.getElem?_cons_succ];exact h1,?_⟩;rw[show n+(i+1)=n+1+i by omega];exact h2
theorem ztc {ar:B8->Nat}:∀ (ms:List yS) (ps:P9),(∀ M∈ms,M.ts.length=ar M.pd)->(∀ k n,zV ps k=some n->n=ar k)->zaq ms ps=-1
 | [],_,_,_=>rfl
 | M::r,ps,h,hp=>by
  have hM:=h M List.mem_cons_self;have hb:zd1 ps M.pd M.ts.length=true:=by
   rw[qK]
   cases hn:zV ps M.pd with
   | none=>rfl
   | some m=>simp only[beq_iff_eq];rw[hp _ _ hn,hM]
  rw[zaq,if_pos hb];refine ztc r _ (λ N hN=>h N (List.mem_cons_of_mem _ hN)) λ k n hk=>?_
  unfold zan at hk
  split at hk
  ·rw[zfx] at hk
   cases hn:zV ps k with
   | some m=>rw[hn] at hk;rw[<-Option.some.inj hk];exact hp _ _ hn
   | none=>
    rw[hn] at hk;simp only at hk
    split at hk
    ·rename_i he;rw[<-Option.some.inj hk,hM,yB.1 he]
    ·cases hk
  ·exact hp _ _ hk
theorem zo1 {ls:List yR}:∀ (ts:List (Bool × B8)) (k:Nat),(∀ t∈ts,t.1=true->zex t.2 ls=true)->xH ls ts k=none
 | [],_,_=>rfl
 | t::r,k,h=>by
  rw[xH,if_neg]
  ·exact zo1 r (k+1) (λ u hu=>h u (List.mem_cons_of_mem _ hu))
  ·intro hx;simp only[Bool.and_eq_true,Bool.not_eq_true'] at hx;rw[h t List.mem_cons_self hx.1] at hx
   cases hx.2
theorem zp3 {ls:List yR}{t:Bool × B8}(ht:t.1=true){l:yR}(hl:l∈ls)(hn:l.neg=false)(hm:t∈l.ts):zex t.2 ls=true:=by
 unfold zex;rw[List.any_eq_true];refine⟨l,List.mem_filter.2 ⟨hl,by rw[hn];rfl⟩,?_⟩;unfold zlk;rw[List.any_eq_true];exact⟨t,hm,by simp[ht]⟩
variable {lv:B8->Nat} {rules:List yH}
theorem z8v (h:∀ R∈rules,∀ l∈R.body,lv l.pd<=lv R.pd){a b:B8}(hr:zdp (xV rules) a b):lv b<=lv a:=by
 have one:∀ {a b},(a,b)∈xV rules->lv b<=lv a:=λ he=>by
  obtain⟨R,hR,he⟩:=List.mem_flatMap.1 he;obtain⟨l,hl,e⟩:=List.mem_map.1 he;injection e with e1 e2
  rw[<-e1,<-e2];exact h R hR l hl
 induction hr with
 | one he=>exact one he
 | next _ he ih=>exact Nat.le_trans (one he) ih
variable {ar:B8->Nat}
theorem zzh {ms:List yS}(hR:∀ R∈rules,zeu ar lv R)(hk:ms.map zgp=zg7 0 rules):zc7 rules ms=(0,0):=by
 have key:∀ M∈ms,∃ R,rules[M.num]?=some R/\R∈rules/\((M.neg=false/\M.pd=R.pd/\M.ts=R.ts)\/∃ l∈R.body,M.neg=l.neg/\M.pd=l.pd/\M.ts=l.ts):=λ M hM=>by
  have:zgp M∈zg7 0 rules:=by rw[<-hk];exact List.mem_map_of_mem hM
  obtain⟨i,R,h1,h2⟩:=zlu this;unfold zgp zj1 at h2;simp only[Prod.mk.injEq,Nat.zero_add] at h2;have hm:R∈rules:=List.mem_of_getElem? h1;rcases h2 with⟨e1,e2,e3,e4⟩ | ⟨l,hl,e1,e2,e3,e4⟩
  ·exact⟨R,by rw[e1];exact h1,hm,.inl ⟨e2,e3,e4⟩⟩
  ·exact⟨R,by rw[e1];exact h1,hm,.inr ⟨l,hl,e2,e3,e4⟩⟩
 have p1:zaq ms []=-1:=ztc (ar:=ar) ms [] (λ M hM=>by
  obtain⟨R,_,hm,⟨_,e1,e2⟩ | ⟨l,hl,_,e1,e2⟩⟩:=key M hM
  ·rw[e1,e2];exact (hR R hm).hd
  ·rw[e1,e2];exact (hR R hm).ls l hl) (λ k n h=>by cases h)
 have p2:∀ (l:List yS),(∀ M∈l,M∈ms)->vM rules l=-1:=by
  intro l
  induction l with
  | nil=>intro _;rfl
  | cons M r ih=>
   intro hl;obtain⟨R,h1,hm,h2⟩:=key M (hl M List.mem_cons_self);have hb:zey rules M.num=R.body:=(by unfold zey;rw[h1]);have hn:xH (zey rules M.num) M.ts 0=none:=by
    rw[hb];refine zo1 M.ts 0 λ t ht hv=>?_
    rcases h2 with⟨_,_,e⟩ | ⟨x,hx,e0,_,e⟩
    ·rw[e] at ht;obtain⟨x,hx,h3,h4⟩:=(hR R hm).safe t ht hv;exact zp3 hv hx h3 h4
    ·rw[e] at ht
     cases M4:x.neg with
     | false=>exact zp3 hv hx M4 ht
     | true=>
      obtain⟨y,hy,h3,h4⟩:=(hR R hm).mQ x hx M4 t ht hv;exact zp3 hv hy h3 h4
   rw[vM,hn];exact ih (λ N hN=>hl N (List.mem_cons_of_mem _ hN))
 have p3:∀ (l:List yS),(∀ M∈l,M∈ms)->j3 rules l=-1:=by
  intro l
  induction l with
  | nil=>intro _;rfl
  | cons M r ih=>
   intro hl;obtain⟨R,h1,hm,h2⟩:=key M (hl M List.mem_cons_self);have hh:zj0 rules M.num=R.pd:=(by unfold zj0;rw[h1]);have hc:¬ z6i rules M=true:=λ hx=>by
    unfold z6i at hx;simp only[Bool.and_eq_true,Bool.or_eq_true,hh] at hx;obtain⟨eH,hx⟩:=hx;rcases h2 with⟨e,_,_⟩ | ⟨x,uZ,e0,e1,_⟩
    ·rw[e] at eH;cases eH
    ·rw[e0] at eH;have bP:=(hR R hm).neg x uZ eH;rw[e1] at hx;rcases hx with hx | hx
     ·rw[yB.1 hx] at bP;omega
     ·have J2:zdp (xV rules) x.pd R.pd:=by
       classical
       unfold ze3 at hx;simpa using hx
      have:=z8v (lv:=lv) (λ Q hQ l hl=>(hR Q hQ).pos l hl) J2;omega
   rw[j3,if_neg hc];exact ih (λ N hN=>hl N (List.mem_cons_of_mem _ hN))
 unfold zc7;rw[p1,p2 ms (λ _ h=>h),p3 ms (λ _ h=>h)];rfl
theorem yc1 {s:B8}{q:Nat}(hs:s.size<=800)(hq:(zD s q).1=0)(hR:∀ R∈rules,zeu ar lv R)(hl:rules.length<=30)(h:aO s 0 (rules.flatMap zj6) q):z7 s=(true,0,0)/\(zJ s).2.2.1=rules:=by
 obtain⟨h1,h2,h3⟩:=ztj hq (λ R hr=>(hR R hr).f) hl h;refine⟨?_,h2⟩;rw[<-zqk];unfold zz8;rw[if_neg (by omega),h1,if_neg (by decide),h2,zzh hR h3,if_neg (by decide)]
end
section
abbrev zm3:=List UInt8 × Int × List UInt8
def zcy (l:List zm3):List UInt8:=l.flatMap λ x=>x.1++x.2.2
theorem zba (x:zm3)(l:List zm3):zcy (x::l)=x.1++(x.2.2++zcy l):=by unfold zcy;rw[List.flatMap_cons,List.append_assoc]
theorem j8 (a b:List zm3):zcy (a++b)=zcy a++zcy b:=by unfold zcy;rw[List.flatMap_append]
def zbu (k:Int):List zm3->Prop
 | []=>k≠2/\k≠3/\k≠4
 | y::_=>y.1≠[]\/(¬ ((k=2\/k=4)/\(y.2.1=2\/y.2.1=4))/\¬ (k=3/\y.2.1=3))
def zr0:List zm3->Prop
 | []=>True
 | x::r=>(∀ c∈x.1,yG c.toNat=true)/\vT x.2.1 x.2.2/\zbu x.2.1 r/\zr0 r
variable {k:Int}
theorem z54 {w:List UInt8}(h:vT k w):∃ c r,w=c::r/\(jD c.toNat=true->k=2\/k=4)/\(yZ c.toNat=true->k=3):=by
 cases h with
 | name bG _ hw _=>
  obtain⟨c,r,rfl⟩:=List.exists_cons_of_ne_nil bG;refine⟨c,r,rfl,λ _=>.inl rfl,λ hh=>?_⟩;have:=hw c List.mem_cons_self;unfold jD at this;unfold yZ at hh;simp at this hh;omega
 | var bG _ hw=>
  obtain⟨c,r,rfl⟩:=List.exists_cons_of_ne_nil bG;refine⟨c,r,rfl,λ hh=>?_,λ _=>rfl⟩;have:=hw c List.mem_cons_self;unfold yZ at this;unfold jD at hh;simp at this hh;omega
 | rA=>exact⟨_,_,rfl,λ _=>.inr rfl,λ h=>absurd h (by decide)⟩
 | open_=>exact⟨_,_,rfl,λ h=>absurd h (by decide),λ h=>absurd h (by decide)⟩
 | shut=>exact⟨_,_,rfl,λ h=>absurd h (by decide),λ h=>absurd h (by decide)⟩
 | comma=>exact⟨_,_,rfl,λ h=>absurd h (by decide),λ h=>absurd h (by decide)⟩
 | dot=>exact⟨_,_,rfl,λ h=>absurd h (by decide),λ h=>absurd h (by decide)⟩
 | mR=>exact⟨_,_,rfl,λ h=>absurd h (by decide),λ h=>absurd h (by decide)⟩
theorem ybn {l:List zm3}{rest:List UInt8}(ha:zbu k l)(ho:zr0 l):yfd k (zcy l++rest):=by
 intro c r' e
 cases l with
 | nil=>exact⟨λ h=>by rcases h with h | h;exact absurd h ha.1;exact absurd h ha.2.2,λ h=>absurd h ha.2.1⟩
 | cons y l=>
  obtain⟨hb,ht,_,_⟩:=ho;rw[zba,List.append_assoc] at e;rcases ha with bG | ⟨h1,h2⟩
  ·obtain⟨d,b,hd⟩:=List.exists_cons_of_ne_nil bG;rw[hd] at e hb;injection e with e1
   have:=hb d List.mem_cons_self;rw[e1] at this;unfold yG at this;simp at this
   constructor
   ·intro _;unfold jD;simp;omega
   ·intro _;unfold yZ;simp;omega
  ·by_cases hyb:y.1=[]
   ·rw[hyb,List.nil_append] at e;obtain⟨d,w,hw,hl,hh⟩:=z54 ht;rw[hw] at e;injection e with e1
    rw[<-e1]
    constructor
    ·intro hk
     cases hx:jD d.toNat with
     | false=>rfl
     | true=>exact absurd ⟨hk,hl hx⟩ h1
    ·intro hk
     cases hx:yZ d.toNat with
     | false=>rfl
     | true=>exact absurd ⟨hk,hh hx⟩ h2
   ·obtain⟨d,b,hd⟩:=List.exists_cons_of_ne_nil hyb;rw[hd] at e hb;injection e with e1
    have:=hb d List.mem_cons_self;rw[e1] at this;unfold yG at this;simp at this
    constructor
    ·intro _;unfold jD;simp;omega
    ·intro _;unfold yZ;simp;omega
theorem zmv {s:B8}{rest:List UInt8}:∀ (l:List zm3) (p:Nat),zr0 l->(zP s).drop p=zcy l++rest->∃ q,aO s p (l.map (·.2)) q/\(zP s).drop q=rest
 | [],p,_,h=>⟨p,.nil p,h⟩
 | x::l,p,ho,h=>by
  obtain⟨hb,ht,ha,FT⟩:=ho;rw[zba,List.append_assoc,List.append_assoc] at h;obtain⟨h1,h2⟩:=yeu h hb ht (ybn ha FT);obtain⟨q,h3,h4⟩:=zmv l _ FT h2;exact⟨q,.cons h1 h3,h4⟩
def jJ:List (Bool × B8)->List zm3
 | []=>[]
 | [t]=>[([],za0 t),([],6,[41])]
 | t::u::r=>([],za0 t)::([],7,[44])::jJ (u::r)
def jW (b:List UInt8)(pd:B8)(ts:List (Bool × B8)):List zm3:=match ts with
 | []=>[(b,2,zP pd)]
 | t::r=>(b,2,zP pd)::([],5,[40])::jJ (t::r)
def zhz (b:List UInt8)(l:yR):List zm3:=if l.neg then (b,4,[110,111,116])::jW [32] l.pd l.ts else jW b l.pd l.ts
def zaf:List yR->List zm3
 | []=>[]
 | [l]=>zhz [32] l++[([],8,[46])]
 | l::m::r=>zhz [32] l++([],7,[44])::zaf (m::r)
def zaj (b:List UInt8)(R:yH):List zm3:=jW b R.pd R.ts++match R.body with
 | []=>[([],8,[46])]
 | l::r=>([32],9,[58,45])::zaf (l::r)
def vN (sep b:List UInt8):List yH->List zm3
 | []=>[]
 | R::r=>zaj b R++vN sep sep r
theorem zpl:∀ ts,(jJ ts).map (·.2)=zhf ts
 | []=>rfl
 | [_]=>rfl
 | t::u::r=>by rw[jJ,zhf,List.map_cons,List.map_cons,zpl (u::r)]
theorem zhm (b:List UInt8)(pd:B8)(ts:List (Bool × B8)):(jW b pd ts).map (·.2)=zk4 pd ts:=by
 cases ts with
 | nil=>rfl
 | cons t r=>unfold jW zk4;simp only[List.map_cons,zpl]
theorem zxu (b:List UInt8)(l:yR):(zhz b l).map (·.2)=zss l:=by
 unfold zhz zss
 cases l.neg with
 | true=>simp only[if_true,List.map_cons,zhm];rfl
 | false=>simp only[Bool.false_eq_true,if_false,zhm];rfl
theorem zr7:∀ ls,(zaf ls).map (·.2)=zjs ls
 | []=>rfl
 | [l]=>by rw[zaf,zjs,List.map_append,zxu];rfl
 | l::m::r=>by rw[zaf,zjs,List.map_append,zxu,List.map_cons,zr7 (m::r)]
theorem z44 (b:List UInt8)(R:yH):(zaj b R).map (·.2)=zj6 R:=by
 unfold zaj zj6;rw[List.map_append,zhm]
 congr 1
 cases R.body with
 | nil=>rfl
 | cons l r=>simp only[List.map_cons,zr7]
theorem zpf (sep:List UInt8):∀ (rules:List yH) (b:List UInt8),(vN sep b rules).map (·.2)=rules.flatMap zj6
 | [],_=>rfl
 | R::r,b=>by rw[vN,List.map_append,z44,zpf sep r sep,List.flatMap_cons]
structure zgv (R:yH):Prop where
 pd:vT 2 (zP R.pd)
 ts:∀ t∈R.ts,vT (za0 t).1 (za0 t).2
 C9:∀ l∈R.body,vT 2 (zP l.pd)
 DJ:∀ l∈R.body,∀ t∈l.ts,vT (za0 t).1 (za0 t).2
theorem zl1:∀ (a b:List zm3),zr0 a->zr0 b->(a=[]\/∃ a' x,a=a'++[x]/\zbu x.2.1 b)->zr0 (a++b)
 | [],b,_,hb,_=>hb
 | [x],b,ha,hb,h=>by
  rcases h with h | ⟨a',y,e,hy⟩
  ·cases h
  ·have km:x=y:=by
    cases a' with
    | nil=>injection e
    | cons z a'=>injection e with _ e;cases a' <;> cases e
   subst km;exact⟨ha.1,ha.2.1,hy,hb⟩
 | x::y::r,b,ha,hb,h=>by
  refine⟨ha.1,ha.2.1,ha.2.2.1,zl1 (y::r) b ha.2.2.2 hb (.inr ?_)⟩;rcases h with h | ⟨a',z,e,hz⟩
  ·cases h
  ·cases a' with
   | nil=>injection e with _ e;cases e
   | cons u a'=>injection e with _ e;exact⟨a',z,e,hz⟩
theorem zjo:∀ (ts:List (Bool × B8)),ts≠[]->(∀ t∈ts,vT (za0 t).1 (za0 t).2)->zr0 (jJ ts)/\∃ a,jJ ts=a++[([],6,[41])]
 | [],h,_=>absurd rfl h
 | [t],_,h=>⟨⟨by simp,h t List.mem_cons_self,.inr ⟨by simp,by simp⟩,by simp,.shut,by simp[zbu],trivial⟩,[([],za0 t)],rfl⟩
 | t::u::r,_,h=>by
  obtain⟨h1,a,h2⟩:=zjo (u::r) (by simp) (λ x hx=>h x (List.mem_cons_of_mem _ hx));have ha:zbu 7 (jJ (u::r)):=by
   cases r with
   | nil=>exact .inr ⟨by simp,by simp⟩
   | cons v r=>exact .inr ⟨by simp,by simp⟩
  refine⟨⟨by simp,h t List.mem_cons_self,.inr ⟨by simp,by simp⟩,by simp,.comma,ha,h1⟩,([],za0 t)::([],7,[44])::a,?_⟩;rw[jJ,h2];rfl
theorem zr5 (c:UInt8)(h:c=32\/c=10):yG c.toNat=true:=by rcases h with rfl | rfl <;> decide
variable {r:List zm3} {b:List UInt8}
theorem Nd (hb:∀ c∈b,yG c.toNat=true){pd:B8}(hp:vT 2 (zP pd)){ts:List (Bool × B8)}(ht:∀ t∈ts,vT (za0 t).1 (za0 t).2)(hr:zr0 r)(ez:zbu 2 r)(fc:zbu 6 r):zr0 (jW b pd ts++r):=by
 cases ts with
 | nil=>exact⟨hb,hp,ez,hr⟩
 | cons t q=>
  obtain⟨h1,a,h2⟩:=zjo (t::q) (by simp) ht;have ha:zbu 5 (jJ (t::q)++r):=by
   cases q with
   | nil=>exact .inr ⟨by simp,by simp⟩
   | cons v q=>exact .inr ⟨by simp,by simp⟩
  exact⟨hb,hp,.inr ⟨by simp,by simp⟩,by simp,.open_,ha,zl1 _ r h1 hr (.inr ⟨a,_,h2,fc⟩)⟩
theorem zxt {l:yR}(hp:vT 2 (zP l.pd))(ht:∀ t∈l.ts,vT (za0 t).1 (za0 t).2)(hr:zr0 r)(ez:zbu 2 r)(fc:zbu 6 r):zr0 (zhz [32] l++r)/\∀ k,zbu k (zhz [32] l++r):=by
 have hb:∀ c∈[(32:UInt8)],yG c.toNat=true:=λ c hc=>zr5 c (.inl (List.mem_singleton.1 hc))
 unfold zhz
 cases l.neg with
 | true=>
  simp only[if_true];refine⟨⟨hb,.rA,?_,Nd hb hp ht hr ez fc⟩,λ k=>.inl (by simp)⟩;unfold jW
  split <;> exact .inl (by simp)
 | false=>
  simp only[Bool.false_eq_true,if_false];refine⟨Nd hb hp ht hr ez fc,λ k=>?_⟩;unfold jW
  split <;> exact .inl (by simp)
theorem zr6:∀ (ls:List yR),ls≠[]->(∀ l∈ls,vT 2 (zP l.pd))->(∀ l∈ls,∀ t∈l.ts,vT (za0 t).1 (za0 t).2)->∀ {r:List zm3},zr0 r->zbu 8 r->zr0 (zaf ls++r)/\∀ k,zbu k (zaf ls++r)
 | [],h,_,_,_,_,_=>absurd rfl h
 | [l],_,hp,ht,r,hr,ha=>by
  rw[zaf,List.append_assoc];exact zxt (hp l List.mem_cons_self) (ht l List.mem_cons_self) (r:=[([],8,[46])]++r) ⟨by simp,.dot,ha,hr⟩ (.inr ⟨by simp,by simp⟩) (.inr ⟨by simp,by simp⟩)
 | l::m::q,_,hp,ht,r,hr,ha=>by
  obtain⟨h1,h2⟩:=zr6 (m::q) (by simp) (λ x hx=>hp x (List.mem_cons_of_mem _ hx)) (λ x hx=>ht x (List.mem_cons_of_mem _ hx)) hr ha;rw[zaf,List.append_assoc];exact zxt (hp l List.mem_cons_self) (ht l List.mem_cons_self) (r:=([],7,[44])::zaf (m::q)++r) ⟨by simp,.comma,h2 7,h1⟩ (.inr ⟨by simp,by simp⟩) (.inr ⟨by simp,by simp⟩)
theorem z43 (hb:∀ c∈b,yG c.toNat=true){R:yH}(hw:zgv R)(hr:zr0 r)(ha:zbu 8 r):zr0 (zaj b R++r):=by
 unfold zaj;rw[List.append_assoc]
 cases cU:R.body with
 | nil=>exact Nd hb hw.pd hw.ts (r:=[([],8,[46])]++r) ⟨by simp,.dot,ha,hr⟩ (.inr ⟨by simp,by simp⟩) (.inr ⟨by simp,by simp⟩)
 | cons l q=>
  obtain⟨h1,h2⟩:=zr6 (l::q) (by simp) (by rw[<-cU];exact hw.C9) (by rw[<-cU];exact hw.DJ) hr ha;exact Nd hb hw.pd hw.ts (r:=([32],9,[58,45])::zaf (l::q)++r) ⟨λ c hc=>zr5 c (.inl (List.mem_singleton.1 hc)),.mR,h2 9,h1⟩ (.inl (by simp)) (.inl (by simp))
theorem zpe {sep:List UInt8}(hs:∀ c∈sep,yG c.toNat=true)(bG:sep≠[]):∀ (rules:List yH) (b:List UInt8),(∀ c∈b,yG c.toNat=true)->(∀ R∈rules,zgv R)->zr0 (vN sep b rules)
 | [],_,_,_=>trivial
 | R::r,b,hb,hw=>by
  refine z43 hb (hw R List.mem_cons_self) (zpe hs bG r sep hs (λ x hx=>hw x (List.mem_cons_of_mem _ hx))) ?_
  cases r with
  | nil=>exact⟨by decide,by decide,by decide⟩
  | cons Q r=>
   rw[vN];unfold zaj jW
   cases Q.ts <;> exact .inl bG
theorem zgd {s:B8}{sep tail:List UInt8}(hs:∀ c∈sep,yG c.toNat=true)(bG:sep≠[])(fZ:∀ c∈tail,yG c.toNat=true){rules:List yH}{ar lv:B8->Nat}(hsz:s.size<=800)(hR:∀ R∈rules,zeu ar lv R)(hw:∀ R∈rules,zgv R)(hl:rules.length<=30)(h:zP s=zcy (vN sep [] rules)++tail):z7 s=(true,0,0)/\(zJ s).2.2.1=rules:=by
 obtain⟨q,h1,h2⟩:=zmv (s:=s) (rest:=tail) (vN sep [] rules) 0 (zpe hs bG rules [] (by simp) hw) h;rw[zpf] at h1;exact yc1 hsz (zpt h2 fZ) hR hl h1
end
section
open Go.RowKit
def zqf (A:yX):Bool:=A.aS.all λ t=>!t.isVar
end
section
open Go.RowKit
def u8c (x:Nat):Value:=.int .u8 ((x:Int)%256)
end
section
open Go.RowKit
def zgf (B:Nat->Bool)(i:Nat)(v:Bool):Nat->Bool:=λ j=>if j=i then v else B j
def qC (B:Nat->Bool)(fr:List Nat):Nat->Bool:=fr.foldl (λ B x=>zgf B x true) B
theorem zql {B:Nat->Bool}{fr:List Nat}{j:Nat}(h:j<fr.length):qC B (fr.take (j+1))=zgf (qC B (fr.take j)) fr[j] true:=by
 unfold qC;rw[List.take_succ_eq_append_getElem h,List.foldl_append];rfl
end
section
open Go.RowKit Go.Maps
theorem yc3 (A:yX):z6j (pa A)=if zqf A then some (thA A) else none:=by
 unfold z6j zqf thA pa;simp only[List.any_map,List.map_map];have e:(A.aS.any ((λ x=>x.1) ∘ a8))=!(A.aS.all λ t=>!t.isVar):=by
  induction A.aS with
  | nil=>rfl
  | cons t r ih=>
   rw[List.any_cons,List.all_cons,ih]
   show (t.isVar||_)=_
   cases t.isVar <;> simp
 rw[e]
 cases (A.aS.all λ t=>!t.isVar) with
 | true=>rfl
 | false=>rfl
theorem zyl (ps:P9)(q:B8):vF ps q=if zyx ps q&&zqf (zas q) then some (thA (zas q)) else none:=by
 unfold vF;rw[z64]
 cases zyx ps q with
 | false=>rfl
 | true=>
  rw[if_pos rfl,Bool.true_and];exact yc3 (zas q)
end
section
open Go.RowKit Go.Maps
theorem zxa {w:W8}{base:Nat}{a:O8}{m c:Nat}{bs:List Nat}(h:w.ownsRow base 5 1 (.slice a m c) m (bs.map u8c))(hm:m=bs.length):(convert 47 9 (.slice a m c)).run Tryz.prog w=.ok (.string (strOfNums (bs.map λ (x:Nat)=>(x:Int)%256))) w:=by
 cases bs with
 | nil=>
  subst hm
  cases a with
  | none=>exact run_convert_bytes_nil _ 47 5 Tryz.underlying47 Tryz.underlying5 _ _ _ Tryz.underlying9
  | some p=>
   obtain⟨g,o,t⟩:=p;rcases h.2 with⟨h0,_⟩ | ⟨g',cap,cur,h0,_⟩
   ·cases h0
   ·injection h0 with e1 e2 e3
    injection e1 with e1
    injection e1 with e1 e4 e5
    subst e1 e4 e5;exact run_convert_bytes_arg _ 47 5 Tryz.underlying47 Tryz.underlying5 _ 0 _ _ [] rfl (λ i hi=>by simp at hi) _ Tryz.underlying9
 | cons x r=>
  obtain⟨g,cap,hv,_,_⟩:=h.form (by rw[hm];simp);injection hv with e1 e2 e3
  subst e1 e3;refine run_convert_bytes_arg _ 47 5 Tryz.underlying47 Tryz.underlying5 _ 0 _ _ _ (by rw[List.length_map];exact hm.symm) (λ i hi=>?_) _ Tryz.underlying9;have Jr:i<(x::r).length:=by omega
  have:=World.ownsRow.cellAt h i (by omega);rw[Nat.zero_add,this,List.getD_eq_getElem?_getD,List.getElem?_map,List.getElem?_map,List.getElem?_eq_getElem Jr];rfl
end
end Go.Proofs.YtldkpahaocjdpaaGreat
