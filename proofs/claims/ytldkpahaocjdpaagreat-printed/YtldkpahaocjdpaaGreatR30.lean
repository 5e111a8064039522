/-
  The reference's Ask.
-/
import Derived.Test.YtldkpahaocjdpaaGreatR28
import Derived.Test.YtldkpahaocjdpaaGreatR29
import Derived.Laws.BytesArg
set_option maxHeartbeats 16000000
set_option maxRecDepth 1000000
namespace Go.Proofs.YtldkpahaocjdpaaGreat
section
open Go.RowKit
def zat (s:B8):yY:=⟨(tok s 0).text,(yD s 0 (-1)).1,false,(tok s 0).at_,0⟩
def zoj (s:B8):Bool:=decide ((yD s 0 (-1)).2.2<0)&&(tok s (yD s 0 (-1)).2.1).kind==46
def zyy (ps:P9)(s:B8):Bool:=zoj s&&zd2 ps (tok s 0).text (yD s 0 (-1)).1.length
end
section
theorem zs9:∀ (L ps:P9),qT L ps->(∀ k n,zV ps k=some n->zV (j8 L ps) k=some n)/\∀ x∈L,zV (j8 L ps) x.1=some x.2
 | [],ps,_=>⟨λ _ _ h=>h,by simp⟩
 | x::r,ps,h=>by
  obtain⟨h1,h2⟩:=h;obtain⟨i1,i2⟩:=zs9 r (zao ps x.1 x.2) h2;rw[j8];have hx:zV (zao ps x.1 x.2) x.1=some x.2:=by rw[zjc h1,if_pos rfl]
  refine⟨λ k n hk=>i1 k n ?_,λ y hy=>?_⟩
  ·rw[zjc h1]
   by_cases e:k=x.1
   ·rw[if_pos e];rw[qL] at h1;rw[e] at hk;rw[hk] at h1;have h3:n=x.2:=(by simpa using h1);rw[h3]
   ·rw[if_neg e];exact hk
  ·rcases List.mem_cons.1 hy with rfl | hy
   ·exact i1 _ _ hx
   ·exact i2 y hy
theorem zv7 {body:List yY}:∀ (ts:List zeo),za3 body ts<0->∀ t∈ts,t.isVar=true->zrf t.text body=true
 | [],_,t,ht,_=>by cases ht
 | u::r,h,t,ht,hv=>by
  rw[za3] at h
  split at h
  ·omega
  ·rename_i c;rcases List.mem_cons.1 ht with rfl | ht
   ·simp only[hv,Bool.true_and,Bool.not_eq_true',Bool.not_eq_false] at c;exact c
   ·exact zv7 r h t ht hv
theorem zo1 {body:List yY}:∀ (l:List yY),zb4 body l<0->∀ A∈l,A.no=true->za3 body A.aS<0
 | [],_,A,hA,_=>by cases hA
 | B::r,h,A,hA,hn=>by
  rw[zb4] at h
  by_cases c:0<=(if B.no then za3 body B.aS else -1)
  ·rw[if_pos c] at h
   by_cases hb:B.no=true
   ·rw[if_pos hb] at c;omega
   ·rw[if_neg hb] at c;omega
  ·rw[if_neg c] at h;rcases List.mem_cons.1 hA with rfl | hA
   ·rw[if_pos hn] at c;omega
   ·exact zo1 r h A hA hn
theorem zmx:∀ (rs:List yU),zbi rs<0->∀ R∈rs,za3 R.body R.head.aS<0/\zb4 R.body R.body<0
 | [],_,R,hR=>by cases hR
 | Q::r,h,R,hR=>by
  rw[zbi] at h
  split at h
  ·omega
  ·rename_i c;rcases List.mem_cons.1 hR with rfl | hR
   ·unfold zfd at c
    split at c
    ·omega
    ·constructor <;> omega
   ·exact zmx r h R hR
theorem zyb {body:List yY}{v:B8}(h:zrf v body=true):∃ a∈yfr body,((true,v):zcb)∈a.ts:=by
 unfold zrf at h;obtain⟨A,hA,h⟩:=List.any_eq_true.1 h;unfold z5d at h;simp only[Bool.and_eq_true,List.any_eq_true] at h;obtain⟨hn,u,hu,hx⟩:=h;unfold Nj at hx;simp only[Bool.and_eq_true] at hx;have e:u.text=v:=yB.1 hx.2;refine⟨pa A,List.mem_map.2 ⟨A,List.mem_filter.2 ⟨hA,hn⟩,rfl⟩,List.mem_map.2 ⟨u,hu,?_⟩⟩;unfold a8;rw[hx.1,e]
variable {s:B8}
theorem ycu (h:(z7 s).1=true):zbi (vE s).1<0:=by
 unfold z7 at h
 by_cases c0:800<s.size
 ·rw[if_pos c0] at h;cases h
 rw[if_neg c0] at h
 by_cases c1:0<=(vE s).2.2
 ·rw[if_pos c1] at h;cases h
 rw[if_neg c1] at h
 by_cases c2:0<=(zF s).1
 ·rw[if_pos c2] at h;cases h
 rw[if_neg c2] at h
 by_cases c3:0<=zbi (vE s).1
 ·rw[if_pos c3] at h;cases h
 omega
theorem zfm (h:(z7 s).1=true){rp:List PR}(bE:rp.map (·.R)=(zJ s).2.2.1)(cT:∀ r∈rp,r.bs.map (·.1)=r.R.body):z6y (zF s).2 (vE s).1 rp:=by
 have g:=qS h;have F4:=g.rules;have sK:=zmx _ (ycu h);have je:∀ x∈(zJ s).2.2.1.flatMap xT,zV (zF s).2 x.1=some x.2:=by
  have:=(zs9 _ _ g.agree).2;rw[g.met] at this;exact this
 have yn:∀ r∈rp,∃ R∈(vE s).1,mu R r:=λ r hr=>by
  have:r.R∈(vE s).1.map yV:=by rw[<-F4,<-bE];exact List.mem_map.2 ⟨r,hr,rfl⟩
  obtain⟨R,hR,e⟩:=List.mem_map.1 this;exact⟨R,hR,e.symm,cT r hr⟩
 refine⟨λ R hR=>?_,yn,λ r hr=>?_⟩
 ·have:yV R∈rp.map (·.R):=by rw[bE,F4];exact List.mem_map.2 ⟨R,hR,rfl⟩
  obtain⟨r,hr,e⟩:=List.mem_map.1 this;exact⟨r,hr,e,cT r hr⟩
 ·obtain⟨R,hR,hrel⟩:=yn r hr;have ak:r.R∈(zJ s).2.2.1:=by rw[<-bE];exact List.mem_map.2 ⟨r,hr,rfl⟩
  have hw:=ztl s r.R ak;have hb:=g.body r.R ak;have nD:∀ x∈r.bs,x.1∈r.R.body:=λ x hx=>by rw[<-cT r hr];exact List.mem_map.2 ⟨x,hx,rfl⟩
  refine⟨?_,⟨hw.1,je (r.R.pd,r.R.ts.length) (List.mem_flatMap.2 ⟨r.R,ak,by simp[xT]⟩)⟩,λ x hx=>⟨hw.2 _ (nD x hx),je (x.1.pd,x.1.ts.length) (List.mem_flatMap.2 ⟨r.R,ak,?_⟩)⟩,λ t ht hv=>?_,λ x hx t ht hv=>?_⟩
  ·rw[<-cT r hr,List.length_map] at hb;exact hb
  ·simp only[xT,List.mem_cons,List.mem_map];exact .inr ⟨x.1,nD x hx,rfl⟩
  ·rw[hrel.hd] at ht;obtain⟨u,hu,rfl⟩:=List.mem_map.1 ht;have uV:u.isVar=true:=hv;have:=zyb (zv7 _ (sK R hR).1 u hu uV);rw[hrel.pos];unfold a8;rw[uV];exact this
  ·rw[hrel.neg] at hx;obtain⟨A,hA,rfl⟩:=List.mem_map.1 hx;obtain⟨hA,hn⟩:=List.mem_filter.1 hA;obtain⟨u,hu,rfl⟩:=List.mem_map.1 ht;have uV:u.isVar=true:=hv;have:=zyb (zv7 _ (zo1 _ (sK R hR).2 A hA hn) u hu uV);rw[hrel.pos];unfold a8;rw[uV];exact this
theorem z38 (q:B8):zde q=if zoj q then some (pa (zat q)) else none:=by
 have h:=zuz q 0 (-1) (by decide) (Nat.zero_le _);unfold zde zoj
 cases hP:yK q 0 with
 | no r=>
  rw[hP] at h;have h':(yD q 0 (-1)).2.2=((zD q r).2.1:Int):=h;rw[h',if_neg];simp;intro h;omega
 | yes p pd ts pl=>
  rw[hP] at h;obtain⟨h1,h2,h3,_,h5⟩:=h;rw[h1];have K:=zep q p h5;have e:(⟨pd,ts⟩:xH)=pa (zat q):=by rw[h2,h3];rfl
  simp only
  by_cases c:(tok q p).kind=46
  ·rw[if_pos (K.k0.2 c),if_pos (by simp[c]),e]
  ·rw[if_neg (λ h=>c (K.k0.1 h)),if_neg (by simp[c])]
theorem z4a {q:B8}{A:xH}(h:zde q=some A):zpx A.p A.ts:=by
 unfold zde at h
 split at h
 ·cases h
 ·rename_i p pd ts pl hp
  split at h
  ·cases h;exact ML hp
  ·cases h
theorem z01 (ps:P9)(A:xH):zb8 ps A=zd2 ps A.p A.ts.length:=by
 unfold zb8
 cases hn:zV ps A.p with
 | none=>exact (by rw[qL,hn]:zd2 ps A.p A.ts.length=true) ▸ rfl
 | some m=>
  by_cases e:m=A.ts.length
  ·have:zd2 ps A.p A.ts.length=true:=by rw[qL,hn,e];simp
   rw[this];simp[e]
  ·have:¬ zd2 ps A.p A.ts.length=true:=by rw[qL,hn];simpa using e
   simp[e,this]
theorem z65 (ps:P9)(q:B8):vD ps q=if zyy ps q then some (pa (zat q)) else none:=by
 unfold vD zyy;rw[z38]
 by_cases c:zoj q=true
 ·rw[if_pos c,c];simp only[Bool.true_and];rw[z01];have:(pa (zat q)).ts.length=(yD q 0 (-1)).1.length:=by simp[pa,zat]
  rw[this];rfl
 ·rw[if_neg c];have:zoj q=false:=by simpa using c
  rw[this];simp
end
section
structure zev (ar lv:B8->Nat)(R:yH):Prop where
 f:z6v R
 hd:R.ts.length=ar R.pd
 ls:∀ l∈R.body,l.ts.length=ar l.pd
 safe:∀ t∈R.ts,t.1=true->∃ l∈R.body,l.neg=false/\t∈l.ts
 mQ:∀ l∈R.body,l.neg=true->∀ t∈l.ts,t.1=true->∃ m∈R.body,m.neg=false/\t∈m.ts
 pos:∀ l∈R.body,lv l.pd<=lv R.pd
 neg:∀ l∈R.body,l.neg=true->lv l.pd<lv R.pd
theorem zlv {x:Nat × Bool × B8 × List (Bool × B8)}:∀ {rules:List yH} {n:Nat},x∈zg8 n rules->∃ i R,rules[i]?=some R/\(x=(n+i,false,R.pd,R.ts)\/∃ l∈R.body,x=zj2 (n+i) l)
 | [],_,h=>by cases h
 | R::r,n,h=>by
  rw[zg8] at h;rcases List.mem_cons.1 h with h | h
  ·exact⟨0,R,rfl,.inl h⟩
  ·rcases List.mem_append.1 h with h | h
   ·obtain⟨l,hl,e⟩:=List.mem_map.1 h;exact⟨0,R,rfl,.inr ⟨l,hl,e.symm⟩⟩
   ·obtain⟨i,Q,h1,h2⟩:=zlv h;refine⟨i+1,Q,by rw[List.getElem?_cons_succ];exact h1,?_⟩;rw[show n+(i+1)=n+1+i by omega];exact h2
theorem ztd {ar:B8->Nat}:∀ (ms:List yT) (ps:P9),(∀ M∈ms,M.ts.length=ar M.pd)->(∀ k n,zV ps k=some n->n=ar k)->zar ms ps=-1
 | [],_,_,_=>rfl
 | M::r,ps,h,hp=>by
  have hM:=h M List.mem_cons_self;have hb:zd2 ps M.pd M.ts.length=true:=by
   rw[qL]
   cases hn:zV ps M.pd with
   | none=>rfl
   | some m=>simp only[beq_iff_eq];rw[hp _ _ hn,hM]
  rw[zar,if_pos hb];refine ztd r _ (λ N hN=>h N (List.mem_cons_of_mem _ hN)) λ k n hk=>?_
  unfold zao at hk
  split at hk
  ·rw[zfy] at hk
   cases hn:zV ps k with
   | some m=>rw[hn] at hk;rw[<-Option.some.inj hk];exact hp _ _ hn
   | none=>
    rw[hn] at hk;simp only at hk
    split at hk
    ·rename_i he;rw[<-Option.some.inj hk,hM,yB.1 he]
    ·cases hk
  ·exact hp _ _ hk
theorem zo2 {ls:List yR}:∀ (ts:List (Bool × B8)) (k:Nat),(∀ t∈ts,t.1=true->zey t.2 ls=true)->xI ls ts k=none
 | [],_,_=>rfl
 | t::r,k,h=>by
  rw[xI,if_neg]
  ·exact zo2 r (k+1) (λ u hu=>h u (List.mem_cons_of_mem _ hu))
  ·intro hx;simp only[Bool.and_eq_true,Bool.not_eq_true'] at hx;rw[h t List.mem_cons_self hx.1] at hx
   cases hx.2
theorem zp4 {ls:List yR}{t:Bool × B8}(ht:t.1=true){l:yR}(hl:l∈ls)(hn:l.neg=false)(hm:t∈l.ts):zey t.2 ls=true:=by
 unfold zey;rw[List.any_eq_true];refine⟨l,List.mem_filter.2 ⟨hl,by rw[hn];rfl⟩,?_⟩;unfold zll;rw[List.any_eq_true];exact⟨t,hm,by simp[ht]⟩
variable {lv:B8->Nat} {rules:List yH}
theorem z8w (h:∀ R∈rules,∀ l∈R.body,lv l.pd<=lv R.pd){a b:B8}(hr:zdq (xW rules) a b):lv b<=lv a:=by
 have one:∀ {a b},(a,b)∈xW rules->lv b<=lv a:=λ he=>by
  obtain⟨R,hR,he⟩:=List.mem_flatMap.1 he;obtain⟨l,hl,e⟩:=List.mem_map.1 he;injection e with e1 e2
  rw[<-e1,<-e2];exact h R hR l hl
 induction hr with
 | one he=>exact one he
 | next _ he ih=>exact Nat.le_trans (one he) ih
variable {ar:B8->Nat}
theorem zzi {ms:List yT}(hR:∀ R∈rules,zev ar lv R)(hk:ms.map zgq=zg8 0 rules):zc8 rules ms=(0,0):=by
 have key:∀ M∈ms,∃ R,rules[M.num]?=some R/\R∈rules/\((M.neg=false/\M.pd=R.pd/\M.ts=R.ts)\/∃ l∈R.body,M.neg=l.neg/\M.pd=l.pd/\M.ts=l.ts):=λ M hM=>by
  have:zgq M∈zg8 0 rules:=by rw[<-hk];exact List.mem_map_of_mem hM
  obtain⟨i,R,h1,h2⟩:=zlv this;unfold zgq zj2 at h2;simp only[Prod.mk.injEq,Nat.zero_add] at h2;have hm:R∈rules:=List.mem_of_getElem? h1;rcases h2 with⟨e1,e2,e3,e4⟩ | ⟨l,hl,e1,e2,e3,e4⟩
  ·exact⟨R,by rw[e1];exact h1,hm,.inl ⟨e2,e3,e4⟩⟩
  ·exact⟨R,by rw[e1];exact h1,hm,.inr ⟨l,hl,e2,e3,e4⟩⟩
 have p1:zar ms []=-1:=ztd (ar:=ar) ms [] (λ M hM=>by
  obtain⟨R,_,hm,⟨_,e1,e2⟩ | ⟨l,hl,_,e1,e2⟩⟩:=key M hM
  ·rw[e1,e2];exact (hR R hm).hd
  ·rw[e1,e2];exact (hR R hm).ls l hl) (λ k n h=>by cases h)
 have p2:∀ (l:List yT),(∀ M∈l,M∈ms)->vN rules l=-1:=by
  intro l
  induction l with
  | nil=>intro _;rfl
  | cons M r ih=>
   intro hl;obtain⟨R,h1,hm,h2⟩:=key M (hl M List.mem_cons_self);have hb:zez rules M.num=R.body:=(by unfold zez;rw[h1]);have hn:xI (zez rules M.num) M.ts 0=none:=by
    rw[hb];refine zo2 M.ts 0 λ t ht hv=>?_
    rcases h2 with⟨_,_,e⟩ | ⟨x,hx,e0,_,e⟩
    ·rw[e] at ht;obtain⟨x,hx,h3,h4⟩:=(hR R hm).safe t ht hv;exact zp4 hv hx h3 h4
    ·rw[e] at ht
     cases M4:x.neg with
     | false=>exact zp4 hv hx M4 ht
     | true=>
      obtain⟨y,hy,h3,h4⟩:=(hR R hm).mQ x hx M4 t ht hv;exact zp4 hv hy h3 h4
   rw[vN,hn];exact ih (λ N hN=>hl N (List.mem_cons_of_mem _ hN))
 have p3:∀ (l:List yT),(∀ M∈l,M∈ms)->j4 rules l=-1:=by
  intro l
  induction l with
  | nil=>intro _;rfl
  | cons M r ih=>
   intro hl;obtain⟨R,h1,hm,h2⟩:=key M (hl M List.mem_cons_self);have hh:zj1 rules M.num=R.pd:=(by unfold zj1;rw[h1]);have hc:¬ z6j rules M=true:=λ hx=>by
    unfold z6j at hx;simp only[Bool.and_eq_true,Bool.or_eq_true,hh] at hx;obtain⟨eH,hx⟩:=hx;rcases h2 with⟨e,_,_⟩ | ⟨x,uZ,e0,e1,_⟩
    ·rw[e] at eH;cases eH
    ·rw[e0] at eH;have bP:=(hR R hm).neg x uZ eH;rw[e1] at hx;rcases hx with hx | hx
     ·rw[yB.1 hx] at bP;omega
     ·have J2:zdq (xW rules) x.pd R.pd:=by
       classical
       unfold ze4 at hx;simpa using hx
      have:=z8w (lv:=lv) (λ Q hQ l hl=>(hR Q hQ).pos l hl) J2;omega
   rw[j4,if_neg hc];exact ih (λ N hN=>hl N (List.mem_cons_of_mem _ hN))
 unfold zc8;rw[p1,p2 ms (λ _ h=>h),p3 ms (λ _ h=>h)];rfl
theorem yc2 {s:B8}{q:Nat}(hs:s.size<=800)(hq:(zD s q).1=0)(hR:∀ R∈rules,zev ar lv R)(hl:rules.length<=30)(h:aM s 0 (rules.flatMap zj7) q):z7 s=(true,0,0)/\(zJ s).2.2.1=rules:=by
 obtain⟨h1,h2,h3⟩:=ztk hq (λ R hr=>(hR R hr).f) hl h;refine⟨?_,h2⟩;rw[<-zql];unfold zz9;rw[if_neg (by omega),h1,if_neg (by decide),h2,zzi hR h3,if_neg (by decide)]
end
section
abbrev zm4:=List UInt8 × Int × List UInt8
def zcz (l:List zm4):List UInt8:=l.flatMap λ x=>x.1++x.2.2
theorem zbb (x:zm4)(l:List zm4):zcz (x::l)=x.1++(x.2.2++zcz l):=by unfold zcz;rw[List.flatMap_cons,List.append_assoc]
theorem j9 (a b:List zm4):zcz (a++b)=zcz a++zcz b:=by unfold zcz;rw[List.flatMap_append]
def zbv (k:Int):List zm4->Prop
 | []=>k≠2/\k≠3/\k≠4
 | y::_=>y.1≠[]\/(¬ ((k=2\/k=4)/\(y.2.1=2\/y.2.1=4))/\¬ (k=3/\y.2.1=3))
def zr1:List zm4->Prop
 | []=>True
 | x::r=>(∀ c∈x.1,yG c.toNat=true)/\vU x.2.1 x.2.2/\zbv x.2.1 r/\zr1 r
variable {k:Int}
theorem z56 {w:List UInt8}(h:vU k w):∃ c r,w=c::r/\(jE c.toNat=true->k=2\/k=4)/\(xA c.toNat=true->k=3):=by
 cases h with
 | name bG _ hw _=>
  obtain⟨c,r,rfl⟩:=List.exists_cons_of_ne_nil bG;refine⟨c,r,rfl,λ _=>.inl rfl,λ hh=>?_⟩;have:=hw c List.mem_cons_self;unfold jE at this;unfold xA at hh;simp at this hh;omega
 | var bG _ hw=>
  obtain⟨c,r,rfl⟩:=List.exists_cons_of_ne_nil bG;refine⟨c,r,rfl,λ hh=>?_,λ _=>rfl⟩;have:=hw c List.mem_cons_self;unfold xA at this;unfold jE at hh;simp at this hh;omega
 | rA=>exact⟨_,_,rfl,λ _=>.inr rfl,λ h=>absurd h (by decide)⟩
 | open_=>exact⟨_,_,rfl,λ h=>absurd h (by decide),λ h=>absurd h (by decide)⟩
 | shut=>exact⟨_,_,rfl,λ h=>absurd h (by decide),λ h=>absurd h (by decide)⟩
 | comma=>exact⟨_,_,rfl,λ h=>absurd h (by decide),λ h=>absurd h (by decide)⟩
 | dot=>exact⟨_,_,rfl,λ h=>absurd h (by decide),λ h=>absurd h (by decide)⟩
 | mR=>exact⟨_,_,rfl,λ h=>absurd h (by decide),λ h=>absurd h (by decide)⟩
theorem ybo {l:List zm4}{rest:List UInt8}(ha:zbv k l)(ho:zr1 l):yfe k (zcz l++rest):=by
 intro c r' e
 cases l with
 | nil=>exact⟨λ h=>by rcases h with h | h;exact absurd h ha.1;exact absurd h ha.2.2,λ h=>absurd h ha.2.1⟩
 | cons y l=>
  obtain⟨hb,ht,_,_⟩:=ho;rw[zbb,List.append_assoc] at e;rcases ha with bG | ⟨h1,h2⟩
  ·obtain⟨d,b,hd⟩:=List.exists_cons_of_ne_nil bG;rw[hd] at e hb;injection e with e1
   have:=hb d List.mem_cons_self;rw[e1] at this;unfold yG at this;simp at this
   constructor
   ·intro _;unfold jE;simp;omega
   ·intro _;unfold xA;simp;omega
  ·by_cases hyb:y.1=[]
   ·rw[hyb,List.nil_append] at e;obtain⟨d,w,hw,hl,hh⟩:=z56 ht;rw[hw] at e;injection e with e1
    rw[<-e1]
    constructor
    ·intro hk
     cases hx:jE d.toNat with
     | false=>rfl
     | true=>exact absurd ⟨hk,hl hx⟩ h1
    ·intro hk
     cases hx:xA d.toNat with
     | false=>rfl
     | true=>exact absurd ⟨hk,hh hx⟩ h2
   ·obtain⟨d,b,hd⟩:=List.exists_cons_of_ne_nil hyb;rw[hd] at e hb;injection e with e1
    have:=hb d List.mem_cons_self;rw[e1] at this;unfold yG at this;simp at this
    constructor
    ·intro _;unfold jE;simp;omega
    ·intro _;unfold xA;simp;omega
theorem zmw {s:B8}{rest:List UInt8}:∀ (l:List zm4) (p:Nat),zr1 l->(zP s).drop p=zcz l++rest->∃ q,aM s p (l.map (·.2)) q/\(zP s).drop q=rest
 | [],p,_,h=>⟨p,.nil p,h⟩
 | x::l,p,ho,h=>by
  obtain⟨hb,ht,ha,FT⟩:=ho;rw[zbb,List.append_assoc,List.append_assoc] at h;obtain⟨h1,h2⟩:=yev h hb ht (ybo ha FT);obtain⟨q,h3,h4⟩:=zmw l _ FT h2;exact⟨q,.cons h1 h3,h4⟩
def jK:List (Bool × B8)->List zm4
 | []=>[]
 | [t]=>[([],za1 t),([],6,[41])]
 | t::u::r=>([],za1 t)::([],7,[44])::jK (u::r)
def jX (b:List UInt8)(pd:B8)(ts:List (Bool × B8)):List zm4:=match ts with
 | []=>[(b,2,zP pd)]
 | t::r=>(b,2,zP pd)::([],5,[40])::jK (t::r)
def zh0 (b:List UInt8)(l:yR):List zm4:=if l.neg then (b,4,[110,111,116])::jX [32] l.pd l.ts else jX b l.pd l.ts
def zag:List yR->List zm4
 | []=>[]
 | [l]=>zh0 [32] l++[([],8,[46])]
 | l::m::r=>zh0 [32] l++([],7,[44])::zag (m::r)
def zak (b:List UInt8)(R:yH):List zm4:=jX b R.pd R.ts++match R.body with
 | []=>[([],8,[46])]
 | l::r=>([32],9,[58,45])::zag (l::r)
def vO (sep b:List UInt8):List yH->List zm4
 | []=>[]
 | R::r=>zak b R++vO sep sep r
theorem zpm:∀ ts,(jK ts).map (·.2)=zhg ts
 | []=>rfl
 | [_]=>rfl
 | t::u::r=>by rw[jK,zhg,List.map_cons,List.map_cons,zpm (u::r)]
theorem zhn (b:List UInt8)(pd:B8)(ts:List (Bool × B8)):(jX b pd ts).map (·.2)=zk5 pd ts:=by
 cases ts with
 | nil=>rfl
 | cons t r=>unfold jX zk5;simp only[List.map_cons,zpm]
theorem zxv (b:List UInt8)(l:yR):(zh0 b l).map (·.2)=zst l:=by
 unfold zh0 zst
 cases l.neg with
 | true=>simp only[if_true,List.map_cons,zhn];rfl
 | false=>simp only[Bool.false_eq_true,if_false,zhn];rfl
theorem zr8:∀ ls,(zag ls).map (·.2)=zjt ls
 | []=>rfl
 | [l]=>by rw[zag,zjt,List.map_append,zxv];rfl
 | l::m::r=>by rw[zag,zjt,List.map_append,zxv,List.map_cons,zr8 (m::r)]
theorem z47 (b:List UInt8)(R:yH):(zak b R).map (·.2)=zj7 R:=by
 unfold zak zj7;rw[List.map_append,zhn]
 congr 1
 cases R.body with
 | nil=>rfl
 | cons l r=>simp only[List.map_cons,zr8]
theorem zpg (sep:List UInt8):∀ (rules:List yH) (b:List UInt8),(vO sep b rules).map (·.2)=rules.flatMap zj7
 | [],_=>rfl
 | R::r,b=>by rw[vO,List.map_append,z47,zpg sep r sep,List.flatMap_cons]
structure zgw (R:yH):Prop where
 pd:vU 2 (zP R.pd)
 ts:∀ t∈R.ts,vU (za1 t).1 (za1 t).2
 C9:∀ l∈R.body,vU 2 (zP l.pd)
 DJ:∀ l∈R.body,∀ t∈l.ts,vU (za1 t).1 (za1 t).2
theorem zl2:∀ (a b:List zm4),zr1 a->zr1 b->(a=[]\/∃ a' x,a=a'++[x]/\zbv x.2.1 b)->zr1 (a++b)
 | [],b,_,hb,_=>hb
 | [x],b,ha,hb,h=>by
  rcases h with h | ⟨a',y,e,hy⟩
  ·cases h
  ·have km:x=y:=by
    cases a' with
    | nil=>injection e
    | cons z a'=>injection e with _ e;cases a' <;> cases e
   subst km;exact⟨ha.1,ha.2.1,hy,hb⟩
 | x::y::r,b,ha,hb,h=>by
  refine⟨ha.1,ha.2.1,ha.2.2.1,zl2 (y::r) b ha.2.2.2 hb (.inr ?_)⟩;rcases h with h | ⟨a',z,e,hz⟩
  ·cases h
  ·cases a' with
   | nil=>injection e with _ e;cases e
   | cons u a'=>injection e with _ e;exact⟨a',z,e,hz⟩
theorem zjp:∀ (ts:List (Bool × B8)),ts≠[]->(∀ t∈ts,vU (za1 t).1 (za1 t).2)->zr1 (jK ts)/\∃ a,jK ts=a++[([],6,[41])]
 | [],h,_=>absurd rfl h
 | [t],_,h=>⟨⟨by simp,h t List.mem_cons_self,.inr ⟨by simp,by simp⟩,by simp,.shut,by simp[zbv],trivial⟩,[([],za1 t)],rfl⟩
 | t::u::r,_,h=>by
  obtain⟨h1,a,h2⟩:=zjp (u::r) (by simp) (λ x hx=>h x (List.mem_cons_of_mem _ hx));have ha:zbv 7 (jK (u::r)):=by
   cases r with
   | nil=>exact .inr ⟨by simp,by simp⟩
   | cons v r=>exact .inr ⟨by simp,by simp⟩
  refine⟨⟨by simp,h t List.mem_cons_self,.inr ⟨by simp,by simp⟩,by simp,.comma,ha,h1⟩,([],za1 t)::([],7,[44])::a,?_⟩;rw[jK,h2];rfl
theorem zr6 (c:UInt8)(h:c=32\/c=10):yG c.toNat=true:=by rcases h with rfl | rfl <;> decide
variable {r:List zm4} {b:List UInt8}
theorem Nd (hb:∀ c∈b,yG c.toNat=true){pd:B8}(hp:vU 2 (zP pd)){ts:List (Bool × B8)}(ht:∀ t∈ts,vU (za1 t).1 (za1 t).2)(hr:zr1 r)(ez:zbv 2 r)(fc:zbv 6 r):zr1 (jX b pd ts++r):=by
 cases ts with
 | nil=>exact⟨hb,hp,ez,hr⟩
 | cons t q=>
  obtain⟨h1,a,h2⟩:=zjp (t::q) (by simp) ht;have ha:zbv 5 (jK (t::q)++r):=by
   cases q with
   | nil=>exact .inr ⟨by simp,by simp⟩
   | cons v q=>exact .inr ⟨by simp,by simp⟩
  exact⟨hb,hp,.inr ⟨by simp,by simp⟩,by simp,.open_,ha,zl2 _ r h1 hr (.inr ⟨a,_,h2,fc⟩)⟩
theorem zxu {l:yR}(hp:vU 2 (zP l.pd))(ht:∀ t∈l.ts,vU (za1 t).1 (za1 t).2)(hr:zr1 r)(ez:zbv 2 r)(fc:zbv 6 r):zr1 (zh0 [32] l++r)/\∀ k,zbv k (zh0 [32] l++r):=by
 have hb:∀ c∈[(32:UInt8)],yG c.toNat=true:=λ c hc=>zr6 c (.inl (List.mem_singleton.1 hc))
 unfold zh0
 cases l.neg with
 | true=>
  simp only[if_true];refine⟨⟨hb,.rA,?_,Nd hb hp ht hr ez fc⟩,λ k=>.inl (by simp)⟩;unfold jX
  split <;> exact .inl (by simp)
 | false=>
  simp only[Bool.false_eq_true,if_false];refine⟨Nd hb hp ht hr ez fc,λ k=>?_⟩;unfold jX
  split <;> exact .inl (by simp)
theorem zr7:∀ (ls:List yR),ls≠[]->(∀ l∈ls,vU 2 (zP l.pd))->(∀ l∈ls,∀ t∈l.ts,vU (za1 t).1 (za1 t).2)->∀ {r:List zm4},zr1 r->zbv 8 r->zr1 (zag ls++r)/\∀ k,zbv k (zag ls++r)
 | [],h,_,_,_,_,_=>absurd rfl h
 | [l],_,hp,ht,r,hr,ha=>by
  rw[zag,List.append_assoc];exact zxu (hp l List.mem_cons_self) (ht l List.mem_cons_self) (r:=[([],8,[46])]++r) ⟨by simp,.dot,ha,hr⟩ (.inr ⟨by simp,by simp⟩) (.inr ⟨by simp,by simp⟩)
 | l::m::q,_,hp,ht,r,hr,ha=>by
  obtain⟨h1,h2⟩:=zr7 (m::q) (by simp) (λ x hx=>hp x (List.mem_cons_of_mem _ hx)) (λ x hx=>ht x (List.mem_cons_of_mem _ hx)) hr ha;rw[zag,List.append_assoc];exact zxu (hp l List.mem_cons_self) (ht l List.mem_cons_self) (r:=([],7,[44])::zag (m::q)++r) ⟨by simp,.comma,h2 7,h1⟩ (.inr ⟨by simp,by simp⟩) (.inr ⟨by simp,by simp⟩)
theorem z44 (hb:∀ c∈b,yG c.toNat=true){R:yH}(hw:zgw R)(hr:zr1 r)(ha:zbv 8 r):zr1 (zak b R++r):=by
 unfold zak;rw[List.append_assoc]
 cases cU:R.body with
 | nil=>exact Nd hb hw.pd hw.ts (r:=[([],8,[46])]++r) ⟨by simp,.dot,ha,hr⟩ (.inr ⟨by simp,by simp⟩) (.inr ⟨by simp,by simp⟩)
 | cons l q=>
  obtain⟨h1,h2⟩:=zr7 (l::q) (by simp) (by rw[<-cU];exact hw.C9) (by rw[<-cU];exact hw.DJ) hr ha;exact Nd hb hw.pd hw.ts (r:=([32],9,[58,45])::zag (l::q)++r) ⟨λ c hc=>zr6 c (.inl (List.mem_singleton.1 hc)),.mR,h2 9,h1⟩ (.inl (by simp)) (.inl (by simp))
theorem zpf {sep:List UInt8}(hs:∀ c∈sep,yG c.toNat=true)(bG:sep≠[]):∀ (rules:List yH) (b:List UInt8),(∀ c∈b,yG c.toNat=true)->(∀ R∈rules,zgw R)->zr1 (vO sep b rules)
 | [],_,_,_=>trivial
 | R::r,b,hb,hw=>by
  refine z44 hb (hw R List.mem_cons_self) (zpf hs bG r sep hs (λ x hx=>hw x (List.mem_cons_of_mem _ hx))) ?_
  cases r with
  | nil=>exact⟨by decide,by decide,by decide⟩
  | cons Q r=>
   rw[vO];unfold zak jX
   cases Q.ts <;> exact .inl bG
theorem zge {s:B8}{sep tail:List UInt8}(hs:∀ c∈sep,yG c.toNat=true)(bG:sep≠[])(fZ:∀ c∈tail,yG c.toNat=true){rules:List yH}{ar lv:B8->Nat}(hsz:s.size<=800)(hR:∀ R∈rules,zev ar lv R)(hw:∀ R∈rules,zgw R)(hl:rules.length<=30)(h:zP s=zcz (vO sep [] rules)++tail):z7 s=(true,0,0)/\(zJ s).2.2.1=rules:=by
 obtain⟨q,h1,h2⟩:=zmw (s:=s) (rest:=tail) (vO sep [] rules) 0 (zpf hs bG rules [] (by simp) hw) h;rw[zpg] at h1;exact yc2 hsz (zpu h2 fZ) hR hl h1
end
section
open Go.RowKit
def zqg (A:yY):Bool:=A.aS.all λ t=>!t.isVar
end
section
open Go.RowKit
def u8c (x:Nat):Value:=.int .u8 ((x:Int)%256)
end
section
open Go.RowKit
def zgg (B:Nat->Bool)(i:Nat)(v:Bool):Nat->Bool:=λ j=>if j=i then v else B j
def qD (B:Nat->Bool)(fr:List Nat):Nat->Bool:=fr.foldl (λ B x=>zgg B x true) B
theorem zqm {B:Nat->Bool}{fr:List Nat}{j:Nat}(h:j<fr.length):qD B (fr.take (j+1))=zgg (qD B (fr.take j)) fr[j] true:=by
 unfold qD;rw[List.take_succ_eq_append_getElem h,List.foldl_append];rfl
end
section
open Go.RowKit Go.Maps
theorem yc4 (A:yY):z6k (pa A)=if zqg A then some (thA A) else none:=by
 unfold z6k zqg thA pa;simp only[List.any_map,List.map_map];have e:(A.aS.any ((λ x=>x.1) ∘ a8))=!(A.aS.all λ t=>!t.isVar):=by
  induction A.aS with
  | nil=>rfl
  | cons t r ih=>
   rw[List.any_cons,List.all_cons,ih]
   show (t.isVar||_)=_
   cases t.isVar <;> simp
 rw[e]
 cases (A.aS.all λ t=>!t.isVar) with
 | true=>rfl
 | false=>rfl
theorem zym (ps:P9)(q:B8):vG ps q=if zyy ps q&&zqg (zat q) then some (thA (zat q)) else none:=by
 unfold vG;rw[z65]
 cases zyy ps q with
 | false=>rfl
 | true=>
  rw[if_pos rfl,Bool.true_and];exact yc4 (zat q)
end
section
open Go.RowKit Go.Maps
theorem zxb {w:W8}{base:Nat}{a:O8}{m c:Nat}{bs:List Nat}(h:w.ownsRow base 5 1 (.slice a m c) m (bs.map u8c))(hm:m=bs.length):(convert 47 9 (.slice a m c)).run Tryz.prog w=.ok (.string (strOfNums (bs.map λ (x:Nat)=>(x:Int)%256))) w:=by
 cases bs with
 | nil=>
  subst hm
  cases a with
  | none=>exact run_convert_bytes_nil _ 47 5 Tryz.underlying47 Tryz.underlying5 _ _ _ Tryz.underlying9
  | some p=>
   obtain⟨g,o,t⟩:=p;rcases h.2 with⟨h0,_⟩ | ⟨g',cap,cur,h0,_⟩
   ·cases h0
   ·injection h0 with e1 e2 e3
    injection e1 with e1
    injection e1 with e1 e4 e5
    subst e1 e4 e5;exact run_convert_bytes_arg _ 47 5 Tryz.underlying47 Tryz.underlying5 _ 0 _ _ [] rfl (λ i hi=>by simp at hi) _ Tryz.underlying9
 | cons x r=>
  obtain⟨g,cap,hv,_,_⟩:=h.form (by rw[hm];simp);injection hv with e1 e2 e3
  subst e1 e3;refine run_convert_bytes_arg _ 47 5 Tryz.underlying47 Tryz.underlying5 _ 0 _ _ _ (by rw[List.length_map];exact hm.symm) (λ i hi=>?_) _ Tryz.underlying9;have Jr:i<(x::r).length:=by omega
  have:=World.ownsRow.cellAt h i (by omega);rw[Nat.zero_add,this,List.getD_eq_getElem?_getD,List.getElem?_map,List.getElem?_map,List.getElem?_eq_getElem Jr];rfl
end
end Go.Proofs.YtldkpahaocjdpaaGreat
