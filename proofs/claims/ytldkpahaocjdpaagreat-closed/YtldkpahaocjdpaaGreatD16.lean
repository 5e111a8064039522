/-
  Plain: where no predicate has two numbers of terms all are there; where nothing hangs on its own not being so, some numbers keep to the rules.
-/
import Derived.Test.YtldkpahaocjdpaaGreatD15
set_option maxHeartbeats 16000000
set_option maxRecDepth 1000000
namespace Go.Proofs.YtldkpahaocjdpaaGreat
section
theorem zre (nm:B8)(m:P9):∀ (l:P9) (k:Nat),0<=xT nm l k->xT nm (l++m) k=xT nm l k
 | [],k,h=>by simp[xT] at h
 | x::r,k,h=>by
  rw[List.cons_append];unfold xT at h ⊢
  split
  ·rfl
  ·rename_i bG;rw[if_neg bG] at h;exact zre nm m r (k+1) h
theorem z1i (nm:B8)(n:Nat):∀ (l:P9) (k:Nat),0<=xT nm (l++[(nm,n)]) k
 | [],k=>by simp[xT]
 | x::r,k=>by
  rw[List.cons_append];unfold xT
  split
  ·omega
  ·exact z1i nm n r (k+1)
theorem z6q (ps:P9)(nm:B8)(n:Nat):0<=xK (zao ps nm n) nm:=by
 unfold zao;split
 ·exact z1i nm n ps 0
 ·omega
theorem zt3 (ps:P9)(nm:B8)(n:Nat)(x:B8)(h:0<=xK ps x):0<=xK (zao ps nm n) x:=by
 unfold zao;split
 ·unfold xK at *;rw[zre x _ ps 0 h];exact h
 ·exact h
theorem zx9 (l:List yR):∀ ps,(zaw l ps).1<0->(∀ A∈l,0<=xK (zaw l ps).2 A.pred)/\(∀ nm,0<=xK ps nm->0<=xK (zaw l ps).2 nm):=by
 induction l with
 | nil=>intro ps _;exact⟨by simp,λ nm h=>h⟩
 | cons A r ih=>
  intro ps h;rw[zaw] at h ⊢
  split
  ·rename_i hb;rw[if_pos hb] at h;obtain⟨h1,h2⟩:=ih _ h;refine⟨λ B hB=>?_,λ nm hn=>h2 nm (zt3 ps A.pred A.aS.length nm hn)⟩;rcases List.mem_cons.1 hB with rfl | hB
   ·exact h2 _ (z6q ps B.pred B.aS.length)
   ·exact h1 B hB
  ·rename_i hb;rw[if_neg hb] at h;simp at h;omega
theorem zhb (l:List yR)(h:¬ 0<=(zaw l []).1):ztb (zaw l []).2 l:=(zx9 l [] (by omega)).1
theorem ycx (n m i:Nat):∀ (d k:Nat) (M:Nat->Nat->Bool),n-k=d->∀ a b,fwK n m i M k a b=(M a b||(decide (a=i)&&decide (k<=b)&&decide (b<n)&&M i m&&M m b)):=by
 intro d
 induction d with
 | zero=>
  intro k M hd a b;rw[yaj (by omega)];have:¬ (k<=b/\b<n):=by omega
  by_cases h1:k<=b <;> by_cases h2:b<n <;> simp[h1,h2] <;> omega
 | succ d ih=>
  intro k M hd a b;rw[ycy (by omega),ih (k+1) _ (by omega) a b];have hM:∀ a b,(if M i m&&M m k then upd M i k else M) a b=(M a b||(decide (a=i)&&decide (b=k)&&M i m&&M m k)):=by
   intro a b
   cases h1:M i m <;> cases h2:M m k <;> simp[upd,Bool.or_comm]
  rw[hM a b,hM i m,hM m b];have CK:k<n:=by omega
  by_cases e1:a=i
  ·by_cases e2:b=k
   ·subst e2
    cases M a b <;> cases M i m <;> cases M m b <;> simp[e1,CK]
   ·by_cases e3:k<=b
    ·have e4:k+1<=b:=by omega
     cases M a b <;> cases M i m <;> cases M m b <;> simp[e1,e2,e3,e4]
    ·have e4:¬ k+1<=b:=by omega
     cases M a b <;> simp[e2,e3,e4]
  ·cases M a b <;> simp[e1]
theorem z86 (n m:Nat):∀ (d i:Nat) (M:Nat->Nat->Bool),n-i=d->∀ a b,fwI n m M i a b=(M a b||(decide (i<=a)&&decide (a<n)&&decide (b<n)&&M a m&&M m b)):=by
 intro d
 induction d with
 | zero=>
  intro i M hd a b;rw[yai (by omega)]
  by_cases h1:i<=a <;> by_cases h2:a<n <;> simp[h1,h2] <;> omega
 | succ d ih=>
  intro i M hd a b;have hM:=ycx n m i _ 0 M rfl;rw[ycw (by omega),ih (i+1) _ (by omega) a b,hM a b,hM a m,hM m b];have ak:i<n:=by omega
  by_cases e1:a=i
  ·subst e1;have e4:¬ a+1<=a:=by omega
   cases M a b <;> cases M a m <;> cases M m b <;> simp[e4,ak]
  ·by_cases e3:i<=a
   ·have e4:i+1<=a:=by omega
    by_cases e5:m=i
    ·subst e5
     cases M a b <;> cases M a m <;> cases M m b <;> cases M m m <;> simp[e1,e3,e4]
    ·cases M a b <;> cases M a m <;> cases M m b <;> simp[e1,e3,e4,e5]
   ·have e4:¬ i+1<=a:=by omega
    cases M a b <;> simp[e1,e3,e4]
theorem znb (n:Nat):∀ (d m:Nat) (M:Nat->Nat->Bool),n-m=d->m<=n->(∀ i j k,i<n->k<n->j<m->M i j=true->M j k=true->M i k=true) ->
  (∀ i j k,i<n->k<n->j<n->fwM n M m i j=true->fwM n M m j k=true->fwM n M m i k=true)/\(∀ i k,M i k=true->fwM n M m i k=true):=by
 intro d
 induction d with
 | zero=>
  intro m M hd bE h;rw[z07 (by omega)];exact⟨λ i j k hi hk hj=>h i j k hi hk (by omega),λ i k h=>h⟩
 | succ d ih=>
  intro m M hd bE h;have hm:m<n:=by omega
  have hM:=z86 n m _ 0 M rfl;rw[z87 hm];have iq:∀ i j k,i<n->k<n->j<m+1->fwI n m M 0 i j=true->fwI n m M 0 j k=true->fwI n m M 0 i k=true:=by
   intro i j k hi hk hj h1 h2;have FD:j<n:=(by omega);rw[hM] at h1 h2 ⊢;simp only[Nat.zero_le,decide_true,Bool.true_and,hi,FD,hk,Bool.or_eq_true,Bool.and_eq_true] at h1 h2 ⊢
   by_cases ej:j=m
   ·subst ej;have a1:M i j=true:=(by rcases h1 with h1 | h1;exact h1;exact h1.1);have a2:M j k=true:=(by rcases h2 with h2 | h2;exact h2;exact h2.2);exact .inr ⟨a1,a2⟩
   ·have CI:j<m:=(by omega);rcases h1 with h1 | ⟨h1,BJ⟩ <;> rcases h2 with h2 | ⟨h2,rX⟩
    ·exact .inl (h i j k hi hk CI h1 h2)
    ·exact .inr ⟨h i j m hi hm CI h1 h2,rX⟩
    ·exact .inr ⟨h1,h m j k hm hk CI BJ h2⟩
    ·exact .inr ⟨h1,rX⟩
  obtain⟨g1,g2⟩:=ih (m+1) (fwI n m M 0) (by omega) (by omega) iq;exact⟨g1,λ i k hik=>g2 i k (by rw[hM,hik];rfl)⟩
variable {i j:Nat}
theorem z8k {M:Nat->Nat->Bool}{a b:Nat}(h:M a b=true):upd M i j a b=true:=by simp[upd,h]
variable {h:Nat} {ps:P9}
theorem zk0 (l:List yR):∀ {M:Nat->Nat->Bool} {a b:Nat},M a b=true->zq8 ps h l M a b=true:=by
 induction l with
 | nil=>intro M a b hM;exact hM
 | cons A r ih=>intro M a b hM;exact ih (z8k hM)
theorem zxn (l:List yN):∀ {M:Nat->Nat->Bool} {a b:Nat},M a b=true->zts ps l M a b=true:=by
 induction l with
 | nil=>intro M a b hM;exact hM
 | cons R r ih=>intro M a b hM;exact ih (zk0 R.body hM)
theorem zxm (l:List yR):∀ {M:Nat->Nat->Bool} {A:yR},A∈l->zq8 ps h l M h (zcs ps A.pred)=true:=by
 induction l with
 | nil=>intro M A hA;cases hA
 | cons B r ih=>
  intro M A hA;rcases List.mem_cons.1 hA with rfl | hA
  ·exact zk0 r (by simp[upd])
  ·exact ih hA
theorem z0v (l:List yN):∀ {M:Nat->Nat->Bool} {R:yN} {A:yR},R∈l->A∈R.body->zts ps l M (zcs ps R.head.pred) (zcs ps A.pred)=true:=by
 induction l with
 | nil=>intro M R A hR;cases hR
 | cons B r ih=>
  intro M R A hR hA;rcases List.mem_cons.1 hR with rfl | hR
  ·exact zxn r (zxm R.body hA)
  ·exact ih hR hA
variable {rs:List yN}
theorem M9 {R:yN}{A:yR}(hR:R∈rs)(hA:A∈R.body):qW ps rs (zcs ps R.head.pred) (zcs ps A.pred)=true:=
 (znb ps.length _ 0 _ rfl (Nat.zero_le _) (by intro i j k _ _ hj;omega)).2 _ _ (z0v rs hR hA)
theorem zgs {k:Nat}(hi:i<ps.length)(hj:j<ps.length)(hk:k<ps.length)(h1:qW ps rs i j=true)(h2:qW ps rs j k=true):qW ps rs i k=true:=
 (znb ps.length _ 0 (zts ps rs (λ _ _=>false)) rfl (Nat.zero_le _) (by intro i j k _ _ hj;omega)).1 i j k hi hk hj h1 h2
variable {H:Nat->Nat->Bool}
theorem zxj {hd:B8}(l:List yR)(h:zer ps H hd l<0):∀ A∈l,zxi ps H hd A=false:=by
 induction l with
 | nil=>simp
 | cons B r ih=>
  rw[zer] at h
  split at h
  ·omega
  ·rename_i hb;intro A hA;rcases List.mem_cons.1 hA with rfl | hA
   ·simpa using hb
   ·exact ih h A hA
theorem z54 (l:List yN)(h:zed ps H l<0):∀ R∈l,∀ A∈R.body,zxi ps H R.head.pred A=false:=by
 induction l with
 | nil=>simp
 | cons B r ih=>
  rw[zed] at h
  split at h
  ·omega
  ·rename_i hb;intro R hR;rcases List.mem_cons.1 hR with rfl | hR
   ·exact zxj R.body (by omega)
   ·exact ih h R hR
theorem z0t {α:Type}{p r:α->Bool}(l:List α)(h:∀ x∈l,p x=true->r x=true){y:α}(hy:y∈l)(hr:r y=true)(hp:p y=false):l.countP p+1<=l.countP r:=by
 induction l with
 | nil=>cases hy
 | cons x t ih=>
  have hm:t.countP p<=t.countP r:=List.countP_mono_left (λ z hz=>h z (List.mem_cons_of_mem _ hz));rcases List.mem_cons.1 hy with rfl | hy
  ·rw[List.countP_cons_of_pos hr,List.countP_cons_of_neg (by rw[hp];decide)];omega
  ·have h1:=ih (λ z hz=>h z (List.mem_cons_of_mem _ hz)) hy
   cases e:p x with
   | true=>rw[List.countP_cons_of_pos e,List.countP_cons_of_pos (h x List.mem_cons_self e)];omega
   | false=>
    rw[List.countP_cons_of_neg (by rw[e];decide)];have:t.countP r<=(x::t).countP r:=by
     cases e2:r x with
     | true=>rw[List.countP_cons_of_pos e2];omega
     | false=>rw[List.countP_cons_of_neg (by rw[e2];decide)];omega
    omega
def z9a (ps:P9)(rs:List yN)(p x:Nat):Bool:=
 rs.any λ R=>R.body.any λ A=>A.no&&((p==zcs ps R.head.pred||qW ps rs p (zcs ps R.head.pred))&&(zcs ps A.pred==x||qW ps rs (zcs ps A.pred) x))
theorem zm1 (ps:P9)(rs:List yN)(ad:ztb ps (rs.flatMap yN.atoms))(h:¬ 0<=zed ps (qW ps rs) rs):∃ f,ycl ps rs f/\∀ i,f i<=ps.length:=by
 have cP:=z54 rs (show zed ps (qW ps rs) rs<0 by omega);have nC:∀ R∈rs,0<=xK ps R.head.pred:=λ R hR=>ad _ (List.mem_flatMap.2 ⟨R,hR,List.mem_cons_self⟩)
 have cU:∀ R∈rs,∀ A∈R.body,0<=xK ps A.pred:=λ R hR A hA=>ad _ (List.mem_flatMap.2 ⟨R,hR,List.mem_cons_of_mem _ hA⟩)
 have DG:∀ R∈rs,zcs ps R.head.pred<ps.length:=λ R hR=>zc9 (nC R hR)
 have AN:∀ R∈rs,∀ A∈R.body,zcs ps A.pred<ps.length:=λ R hR A hA=>zc9 (cU R hR A hA)
 refine⟨λ p=>(List.range ps.length).countP (z9a ps rs p),λ R hR A hA=>?_,λ i=>by have:=List.countP_le_length (p:=z9a ps rs i) (l:=List.range ps.length);simpa using this⟩;have FW:=M9 (ps:=ps) hR hA;have himp:∀ x∈List.range ps.length,z9a ps rs (zcs ps A.pred) x=true->z9a ps rs (zcs ps R.head.pred) x=true:=by
  intro x _ hx;unfold z9a at hx ⊢;simp only[List.any_eq_true,Bool.and_eq_true,Bool.or_eq_true,beq_iff_eq] at hx ⊢;obtain⟨R',qf,A',Lc,hn,h1,h2⟩:=hx;refine⟨R',qf,A',Lc,hn,.inr ?_,h2⟩;rcases h1 with h1 | h1
  ·rw[<-h1];exact FW
  ·exact zgs (DG R hR) (AN R hR A hA) (DG R' qf) FW h1
 unfold yce
 cases Dc:A.no with
 | false=>
  simp only[Bool.false_eq_true,if_false,Nat.add_zero];exact List.countP_mono_left himp
 | true=>
  simp only[if_true];refine z0t _ himp (y:=zcs ps A.pred) (List.mem_range.2 (AN R hR A hA)) ?_ ?_
  ·unfold z9a;simp only[List.any_eq_true,Bool.and_eq_true,Bool.or_eq_true,beq_iff_eq];exact⟨R,hR,A,hA,Dc,.inl rfl,.inl rfl⟩
  ·cases hq:z9a ps rs (zcs ps A.pred) (zcs ps A.pred) with
   | false=>rfl
   | true=>
    exfalso
    unfold z9a at hq;simp only[List.any_eq_true,Bool.and_eq_true,Bool.or_eq_true,beq_iff_eq] at hq;obtain⟨R',qf,A',Lc,hn,h1,h2⟩:=hq;have hc:=cP R' qf A' Lc;unfold zxi at hc;rw[hn,Bool.true_and,Bool.or_eq_false_iff] at hc;obtain⟨mC,nA⟩:=hc;have lq:=AN R hR A hA;have la:=DG R' qf;have lb:=AN R' qf A' Lc;have key:zcs ps A'.pred=zcs ps R'.head.pred\/qW ps rs (zcs ps A'.pred) (zcs ps R'.head.pred)=true:=by
     rcases h2 with h2 | h2 <;> rcases h1 with h1 | h1
     ·exact .inl (h2.trans h1)
     ·exact .inr (by rw[h2];exact h1)
     ·exact .inr (by rw[<-h1];exact h2)
     ·exact .inr (zgs lb lq la h2 h1)
    rcases key with key | key
    ·have p1:=cU R' qf A' Lc;have p2:=nC R' qf;unfold zcs at key;have:xK ps A'.pred=xK ps R'.head.pred:=by omega
     rw[this] at mC;simp at mC
    ·rw[key] at nA;cases nA
end
section
variable {ms:List yU} {rs:List yN} {n:Nat}
theorem z35 (h:jU n rs ms):∃ Q:List (yR × yU),Q.map (·.1)=rs.flatMap yN.atoms/\Q.map (·.2)=ms/\∀ x∈Q,∃ i,zjd i x.1 x.2:=by
 induction h with
 | nil n=>exact⟨[],rfl,rfl,by simp⟩
 | cons h t ih=>
  obtain⟨q,q1,q2,q3⟩:=h;obtain⟨Q,Q1,Q2,Q3⟩:=ih;refine⟨q++Q,by simp[q1,Q1],by simp[q2,Q2],λ x hx=>?_⟩;rcases List.mem_append.1 hx with hx | hx
  ·exact⟨_,q3 x hx⟩
  ·exact Q3 x hx
theorem zr2:∀ (Q:List (yR × yU)) (ps:P9),(∀ x∈Q,∃ i,zjd i x.1 x.2)->zaq (Q.map (·.2)) ps=(zaw (Q.map (·.1)) ps).1
 | [],ps,_=>rfl
 | x::r,ps,h=>by
  obtain⟨i,hx⟩:=h x List.mem_cons_self;have ih:=λ ps'=>zr2 r ps' (λ y hy=>h y (List.mem_cons_of_mem _ hy))
  have e1:x.2.ts.length=x.1.aS.length:=by rw[hx.ts];simp
  simp only[List.map_cons,zaq,zaw];rw[hx.pd,e1,ih,hx.place]
  split <;> rfl
def vO {α:Type}(F:α->Int):List α->Int
 | []=>-1
 | x::r=>if 0<=F x then F x else vO F r
theorem zjl {α:Type}(F:α->Int)(b:List α):∀ (a:List α),vO F (a++b)=if 0<=vO F a then vO F a else vO F b
 | []=>by simp[vO]
 | x::r=>by
  rw[List.cons_append,vO,vO,zjl F b r]
  by_cases h:0<=F x
  ·simp[h]
  ·simp[h]
theorem zn3 (h:jU n rs ms)(F:yU->Int)(G:yN->Int):(∀ i R ms',rs[i]?=some R->cI (n+i) R.atoms ms'->vO F ms'=G R)->vO F ms=vO G rs:=by
 induction h with
 | nil n=>intro _;rfl
 | @cons n R rs ms ms' h t ih=>
  intro hG;have h1:=hG 0 R ms rfl h
  have h2:=ih (λ i R' ms'' hi hm=>hG (i+1) R' ms'' (by simpa using hi) (by
   have e:n+(i+1)=n+1+i:=by omega
   rw[e];exact hm))
  rw[zjl,h1,h2,vO]
theorem zrt {i:Nat}{l:List yR}(h:cI i l ms)(F:yU->Int)(G:yR->Int)(hG:∀ A∈l,∀ M,zjd i A M->F M=G A):vO F ms=vO G l:=by
 obtain⟨q,rfl,rfl,q3⟩:=h
 induction q with
 | nil=>rfl
 | cons x r ih=>
  have h1:=hG x.1 (by simp) x.2 (q3 x List.mem_cons_self);have h2:=ih (λ A hA M hM=>hG A (List.mem_cons_of_mem _ hA) M hM) (λ y hy=>q3 y (List.mem_cons_of_mem _ hy));simp only[List.map_cons,vO,h1,h2]
theorem yc0 (v:B8)(l:List zef):zk7 v (l.map aR)=l.any (MP v):=by
 unfold zk7;rw[List.any_map];rfl
theorem z5t (v:B8)(body:List yR):zeo v (body.map bl)=zp1 v body:=by
 unfold zeo zp1
 induction body with
 | nil=>rfl
 | cons A r ih=>
  rw[List.map_cons,List.filter_cons,List.any_cons,<-ih]
  cases hn:A.no with
  | true=>simp[bl,hn,z3m]
  | false=>simp[bl,hn,z3m,yc0]
theorem zv6 (body:List yR)(pl:Nat->Nat):∀ (l:List zef) (k:Nat),(∀ i (h:i<l.length),pl (k+i)=(l[i]).at_)->(match xH (body.map bl) (l.map aR) k with | some i=>(pl i:Int) | none=>-1)=za1 body l
 | [],k,_=>rfl
 | t::r,k,h=>by
  have ih:=zv6 body pl r (k+1) (λ i hi=>by
   have:=h (i+1) (by simpa using hi)
   rw[show k+1+i=k+(i+1) by omega,this];simp)
  simp only[List.map_cons,xH,za1];rw[show (aR t).1=t.isVar from rfl,show (aR t).2=t.text from rfl,z5t]
  by_cases hc:(t.isVar&&!zp1 t.text body)=true
  ·rw[if_pos hc,if_pos hc];have:=h 0 (by simp);simp only[Nat.add_zero,List.getElem_cons_zero] at this;simp only[this]
  ·rw[if_neg hc,if_neg hc];exact ih
theorem z1y {body:List yR}{A:yR}(hA:A∈body)(hn:A.no=false):za1 body A.aS=-1:=by
 have key:∀ l:List zef,(∀ t∈l,t∈A.aS)->za1 body l=-1:=by
  intro l
  induction l with
  | nil=>intro _;rfl
  | cons t r ih=>
   intro h;rw[za1,if_neg,ih (λ u hu=>h u (List.mem_cons_of_mem _ hu))]
   cases hv:t.isVar with
   | false=>simp
   | true=>
    have hs:zp1 t.text body=true:=by
     unfold zp1;rw[List.any_eq_true];refine⟨A,hA,?_⟩;unfold z3m;rw[hn];simp only[Bool.not_false,Bool.true_and];rw[List.any_eq_true];exact⟨t,h t List.mem_cons_self,by simp[MP,hv]⟩
    simp[hs]
 exact key A.aS (λ t h=>h)
theorem ze5 (body:List yR):∀ l:List yR,(∀ A∈l,A∈body)->zb1 body l=vO (λ A=>za1 body A.aS) l
 | [],_=>rfl
 | A::r,h=>by
  rw[zb1,vO,<-ze5 body r (λ B hB=>h B (List.mem_cons_of_mem _ hB))]
  cases hn:A.no with
  | true=>simp
  | false=>
   rw[z1y (h A List.mem_cons_self) hn];simp
theorem zjw:∀ rs:List yN,zbf rs=vO ze6 rs
 | []=>rfl
 | R::r=>by rw[zbf,vO,zjw r]
def ydu (rs:List yG)(M:yU):Int:=match xH (zep rs M.num) M.ts 0 with | some i=>(M.pl i:Int) | none=>-1
theorem zh6 (rs:List yG):∀ ms:List yU,vI rs ms=vO (ydu rs) ms
 | []=>rfl
 | M::r=>by
  rw[vI,vO,<-zh6 rs r];unfold ydu
  cases xH (zep rs M.num) M.ts 0 with
  | none=>simp
  | some i=>simp
theorem zzb (h:jU 0 rs ms):vI (rs.map yO) ms=zbf rs:=by
 rw[zh6,zjw];refine zn3 h _ _ (λ i R ms' hi hm=>?_);rw[Nat.zero_add] at hm;have hb:zep (rs.map yO) i=R.body.map bl:=by
  unfold zep;rw[List.getElem?_map,hi];rfl
 rw[zrt hm (ydu (rs.map yO)) (λ A=>za1 R.body A.aS) (λ A _ M hM=>?_)]
 ·unfold yN.atoms ze6;rw[vO,ze5 R.body R.body (λ A hA=>hA)]
 ·unfold ydu;rw[hM.num,hb,hM.ts];exact zv6 R.body M.pl A.aS 0 (λ i hi=>by rw[Nat.zero_add];exact hM.pl i hi)
theorem z1j (nm:B8):∀ (l:P9) (k:Nat),0<=xT nm l k->(l.getD (xT nm l k-k).toNat (nm,0)).1=nm
 | [],k,h=>by simp[xT] at h
 | x::r,k,h=>by
  unfold xT at h ⊢
  by_cases hx:(x.1.toList==nm.toList)=true
  ·rw[if_pos hx];simp;exact zU.1 hx
  ·rw[if_neg hx] at h ⊢;have ih:=z1j nm r (k+1) h;have:=(z6i nm r (k+1) h).1;have e:(xT nm r (k+1)-(k:Int)).toNat=(xT nm r (k+1)-((k+1:Nat):Int)).toNat+1:=(by omega);rw[e];simpa using ih
def yds (ps:P9)(i:Nat):B8:=(ps.getD i ({ data:=#[] },0)).1
variable {ps:P9}
theorem zyd {x:B8}(h:0<=xK ps x):yds ps (zcs ps x)=x:=by
 have h1:=z1j x ps 0 h;have bP:=zc9 h;unfold yds zcs;rw[show xT x ps 0=xK ps x from rfl] at h1;simp only[Int.natCast_zero,Int.sub_zero] at h1;rw[List.getD_eq_getElem?_getD,List.getElem?_eq_getElem bP] at h1 ⊢;simpa using h1
variable {a b:B8}
theorem yao (ha:0<=xK ps a)(hb:0<=xK ps b):(xK ps a==xK ps b)=(a.toList==b.toList):=by
 rw[Bool.eq_iff_iff]
 constructor
 ·intro h;have h1:xK ps a=xK ps b:=by simpa using h
  have h2:=zyd ha;rw[show zcs ps a=zcs ps b by unfold zcs;rw[h1],zyd hb] at h2;rw[h2];simp
 ·intro h;rw[zU.1 h];simp
theorem zlf {x y:B8}:(x,y)∈xS (rs.map yO)↔∃ R∈rs,∃ A∈R.body,x=R.head.pred/\y=A.pred:=by
 unfold xS zgb
 constructor
 ·intro h;obtain⟨P,hP,h⟩:=List.mem_flatMap.1 h;obtain⟨R,hR,rfl⟩:=List.mem_map.1 hP;obtain⟨L,hL,h⟩:=List.mem_map.1 h;obtain⟨A,hA,rfl⟩:=List.mem_map.1 hL;injection h with h1 h2
  exact⟨R,hR,A,hA,h1.symm,h2.symm⟩
 ·rintro⟨R,hR,A,hA,rfl,rfl⟩;exact List.mem_flatMap.2 ⟨yO R,List.mem_map_of_mem hR,List.mem_map.2 ⟨bl A,List.mem_map_of_mem hA,rfl⟩⟩
theorem zjk {ps:P9}{h:Nat}:∀ (l:List yR) {M:Nat->Nat->Bool} {a b:Nat},zq8 ps h l M a b=true->M a b=true\/(a=h/\∃ A∈l,b=zcs ps A.pred)
 | [],M,a,b,hm=>.inl hm
 | A::r,M,a,b,hm=>by
  rcases zjk r hm with h1 | ⟨h1,B,hB,h2⟩
  ·unfold upd at h1;simp at h1;rcases h1 with⟨h1,h2⟩ | h1
   ·exact .inr ⟨h1,A,List.mem_cons_self,h2⟩
   ·exact .inl h1
  ·exact .inr ⟨h1,B,List.mem_cons_of_mem _ hB,h2⟩
theorem zk1 {ps:P9}:∀ (l:List yN) {M:Nat->Nat->Bool} {a b:Nat},zts ps l M a b=true->M a b=true\/∃ R∈l,a=zcs ps R.head.pred/\∃ A∈R.body,b=zcs ps A.pred
 | [],M,a,b,hm=>.inl hm
 | R::r,M,a,b,hm=>by
  rcases zk1 r hm with h1 | ⟨R',hR,h1⟩
  ·rcases zjk R.body h1 with h2 | ⟨h2,A,hA,h3⟩
   ·exact .inl h2
   ·exact .inr ⟨R,List.mem_cons_self,h2,A,hA,h3⟩
  ·exact .inr ⟨R',List.mem_cons_of_mem _ hR,h1⟩
theorem z08 (P:Nat->Nat->Prop)(hP:∀ a b c,P a b->P b c->P a c)(n:Nat):∀ (d m:Nat) (M:Nat->Nat->Bool),n-m=d->(∀ a b,M a b=true->P a b)->∀ a b,fwM n M m a b=true->P a b:=by
 intro d
 induction d with
 | zero=>
  intro m M hd hM a b h;rw[z07 (by omega)] at h;exact hM a b h
 | succ d ih=>
  intro m M hd hM a b h;rw[z87 (by omega)] at h;refine ih (m+1) _ (by omega) (λ x y km=>?_) a b h;rw[z86 n m (n-0) 0 M rfl] at km;simp at km;rcases km with h1 | h1
  ·exact hM x y h1
  ·exact hP x m y (hM x m h1.1.2) (hM m y h1.2)
theorem zuj {E:List zha}{c:B8}(h:zdj E a b)(t:zdj E b c):zdj E a c:=by
 induction t with
 | one h1=>exact .next h h1
 | next _ h1 ih=>exact .next ih h1
theorem z6e (ad:ztb ps (rs.flatMap yN.atoms))(ha:0<=xK ps a)(hb:0<=xK ps b):zeu (xS (rs.map yO)) a b=qW ps rs (zcs ps a) (zcs ps b):=by
 have LB:∀ R∈rs,0<=xK ps R.head.pred:=λ R hR=>ad _ (List.mem_flatMap.2 ⟨R,hR,List.mem_cons_self⟩)
 have jb:∀ R∈rs,∀ A∈R.body,0<=xK ps A.pred:=λ R hR A hA=>ad _ (List.mem_flatMap.2 ⟨R,hR,List.mem_cons_of_mem _ hA⟩)
 rw[Bool.eq_iff_iff];unfold zeu;simp only[decide_eq_true_eq]
 constructor
 ·intro h;have key:∀ y,zdj (xS (rs.map yO)) a y->qW ps rs (zcs ps a) (zcs ps y)=true/\0<=xK ps y:=by
   intro y hy
   induction hy with
   | one h1=>
    obtain⟨R,hR,A,hA,rfl,rfl⟩:=zlf.1 h1;exact⟨M9 hR hA,jb R hR A hA⟩
   | next t h1 ih=>
    obtain⟨R,hR,A,hA,rfl,rfl⟩:=zlf.1 h1;exact⟨zgs (zc9 ha) (zc9 ih.2) (zc9 (jb R hR A hA)) ih.1 (M9 hR hA),jb R hR A hA⟩
  exact (key b h).1
 ·intro h;have:=z08 (λ i j=>zdj (xS (rs.map yO)) (yds ps i) (yds ps j)) (λ _ _ _=>zuj) ps.length ps.length 0 (zts ps rs (λ _ _=>false)) rfl (λ i j hij=>?_) _ _ h
  ·rw[zyd ha,zyd hb] at this;exact this
  ·rcases zk1 rs hij with h1 | ⟨R,hR,rfl,A,hA,rfl⟩
   ·cases h1
   ·simp only[zyd (LB R hR),zyd (jb R hR A hA)];exact .one (zlf.2 ⟨R,hR,A,hA,rfl,rfl⟩)
theorem zhi (ps:P9)(H:Nat->Nat->Bool)(hd:B8):∀ l:List yR,zer ps H hd l=vO (λ A=>if zxi ps H hd A then (A.rz:Int) else -1) l
 | []=>rfl
 | A::r=>by
  rw[zer,vO,<-zhi ps H hd r]
  by_cases h:zxi ps H hd A=true
  ·simp[h]
  ·simp[h]
theorem zji (ps:P9)(H:Nat->Nat->Bool):∀ rs:List yN,zed ps H rs=vO (λ R=>zer ps H R.head.pred R.body) rs
 | []=>rfl
 | R::r=>by rw[zed,vO,zji ps H r]
theorem zjj (rs:List yG):∀ ms:List yU,j0 rs ms=vO (λ M=>if z4x rs M then (M.start:Int) else -1) ms
 | []=>rfl
 | M::r=>by
  rw[j0,vO,<-zjj rs r]
  by_cases h:z4x rs M=true
  ·simp[h]
  ·simp[h]
theorem z52 (h:jU 0 rs ms)(ad:ztb ps (rs.flatMap yN.atoms))(cP:∀ R∈rs,R.head.no=false):j0 (rs.map yO) ms=zed ps (qW ps rs) rs:=by
 rw[zjj,zji];refine zn3 h _ _ (λ i R ms' hi hm=>?_);rw[Nat.zero_add] at hm;have hR:R∈rs:=List.mem_of_getElem? hi;have hh:zjn (rs.map yO) i=R.head.pred:=by
  unfold zjn;rw[List.getElem?_map,hi];rfl
 have hp:=ad R.head (List.mem_flatMap.2 ⟨R,hR,List.mem_cons_self⟩);rw[zrt hm _ (λ A=>if zxi ps (qW ps rs) R.head.pred A then (A.rz:Int) else -1) (λ A hA M hM=>?_)]
 ·unfold yN.atoms;rw[vO,zhi];have:zxi ps (qW ps rs) R.head.pred R.head=false:=by unfold zxi;rw[cP R hR];rfl
  simp[this]
 ·have ze:=ad A (List.mem_flatMap.2 ⟨R,hR,hA⟩);have e:z4x (rs.map yO) M=zxi ps (qW ps rs) R.head.pred A:=by
   unfold z4x zxi;rw[hM.num,hh,hM.neg,hM.pd,z6e ad ze hp,yao ze hp]
  simp only[e]
  by_cases hc:zxi ps (qW ps rs) R.head.pred A=true
  ·rw[if_pos hc,if_pos hc];have:A.no=true:=by unfold zxi at hc;simp at hc;exact hc.1
   rw[hM.start this]
  ·rw[if_neg hc,if_neg hc]
theorem zyz {s:B8}(f:Nat):∀ {p:Nat} {bd:Int} {l:List yN},(∀ R∈l,R.head.no=false)->∀ R∈(zdb s f p bd l).1,R.head.no=false:=by
 induction f with
 | zero=>intro p bd l h;exact h
 | succ f ih=>
  intro p bd l h;rw[zdb]
  split
  ·refine ih (λ R hR=>?_);rcases List.mem_append.1 hR with hR | hR
   ·exact h R hR
   ·simp at hR;subst hR;rfl
  ·exact h
theorem zt0 (s:B8):zyl s=xJ s:=by
 unfold zyl xJ
 by_cases c0:800<s.size
 ·rw[if_pos c0,if_pos c0]
 ·rw[if_neg c0,if_neg c0]
  cases c1:(zO s).1 with
  | false=>
   have h:=(zhw s).2 c1;rw[if_pos rfl,h,if_pos (by omega)]
  | true=>
   obtain⟨h1,h2,h3⟩:=(zhw s).1 c1;rw[if_neg (show ¬ (true=false) by decide),h1,if_neg (show ¬ ((0:Int)<=-1) by decide),h2];obtain⟨Q,Q1,Q2,Q3⟩:=z35 h3;have ea:zaq (zO s).2.2.2 []=(zH s).1:=by
    unfold zH;rw[<-Q1,<-Q2];exact zr2 Q [] Q3
   have eu:=zzb h3;unfold zcz;rw[ea,eu]
   by_cases c2:0<=(zH s).1
   ·simp[c2]
   ·have ad:ztb (zH s).2 ((vA s).1.flatMap yN.atoms):=zhb _ c2;have ec:=z52 h3 ad (zyz 31 (by simp));rw[ec];rw[if_neg c2,if_neg c2]
    by_cases c3:0<=zbf (vA s).1
    ·simp[c3]
    ·rw[if_neg c3,if_neg c3]
     by_cases c4:0<=zed (zH s).2 (qW (zH s).2 (vA s).1) (vA s).1
     ·simp[c4]
     ·simp[c4]
end
end Go.Proofs.YtldkpahaocjdpaaGreat
