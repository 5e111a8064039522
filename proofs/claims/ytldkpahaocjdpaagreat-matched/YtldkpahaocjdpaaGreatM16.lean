/-
  Plain: where no predicate has two numbers of terms all are there; where nothing hangs on its own not being so, some numbers keep to the rules.
-/
import Derived.Test.YtldkpahaocjdpaaGreatM15
set_option maxHeartbeats 16000000
set_option maxRecDepth 1000000
namespace Go.Proofs.YtldkpahaocjdpaaGreat
section
theorem zqx (nm:B8)(m:P9):∀ (l:P9) (k:Nat),0<=xS nm l k->xS nm (l++m) k=xS nm l k
 | [],k,h=>by simp[xS] at h
 | x::r,k,h=>by
  rw[List.cons_append];unfold xS at h ⊢
  split
  ·rfl
  ·rename_i bG;rw[if_neg bG] at h;exact zqx nm m r (k+1) h
theorem z0n (nm:B8)(n:Nat):∀ (l:P9) (k:Nat),0<=xS nm (l++[(nm,n)]) k
 | [],k=>by simp[xS]
 | x::r,k=>by
  rw[List.cons_append];unfold xS
  split
  ·omega
  ·exact z0n nm n r (k+1)
theorem z5e (ps:P9)(nm:B8)(n:Nat):0<=xJ (zac ps nm n) nm:=by
 unfold zac;split
 ·exact z0n nm n ps 0
 ·omega
theorem ztl (ps:P9)(nm:B8)(n:Nat)(x:B8)(h:0<=xJ ps x):0<=xJ (zac ps nm n) x:=by
 unfold zac;split
 ·unfold xJ at *;rw[zqx x _ ps 0 h];exact h
 ·exact h
theorem zxl (l:List yQ):∀ ps,(zal l ps).1<0->(∀ A∈l,0<=xJ (zal l ps).2 A.pred)/\(∀ nm,0<=xJ ps nm->0<=xJ (zal l ps).2 nm):=by
 induction l with
 | nil=>intro ps _;exact⟨by simp,λ nm h=>h⟩
 | cons A r ih=>
  intro ps h;rw[zal] at h ⊢
  split
  ·rename_i hb;rw[if_pos hb] at h;obtain⟨h1,h2⟩:=ih _ h;refine⟨λ B hB=>?_,λ nm hn=>h2 nm (ztl ps A.pred A.aS.length nm hn)⟩;rcases List.mem_cons.1 hB with rfl | hB
   ·exact h2 _ (z5e ps B.pred B.aS.length)
   ·exact h1 B hB
  ·rename_i hb;rw[if_neg hb] at h;simp at h;omega
theorem zgv (l:List yQ)(h:¬ 0<=(zal l []).1):zss (zal l []).2 l:=(zxl l [] (by omega)).1
theorem ybj (n m i:Nat):∀ (d k:Nat) (M:Nat->Nat->Bool),n-k=d->∀ a b,fwK n m i M k a b=(M a b||(decide (a=i)&&decide (k<=b)&&decide (b<n)&&M i m&&M m b)):=by
 intro d
 induction d with
 | zero=>
  intro k M hd a b;rw[z9c (by omega)];have:¬ (k<=b/\b<n):=by omega
  by_cases h1:k<=b <;> by_cases h2:b<n <;> simp[h1,h2] <;> omega
 | succ d ih=>
  intro k M hd a b;rw[ybk (by omega),ih (k+1) _ (by omega) a b];have hM:∀ a b,(if M i m&&M m k then upd M i k else M) a b=(M a b||(decide (a=i)&&decide (b=k)&&M i m&&M m k)):=by
   intro a b
   cases h1:M i m <;> cases h2:M m k <;> simp[upd,Bool.or_comm]
  rw[hM a b,hM i m,hM m b];have CK:k<n:=by omega
  by_cases e1:a=i
  ·by_cases e2:b=k
   ·subst e2
    cases M a b <;> cases M i m <;> cases M m b <;> simp[e1,CK]
   ·by_cases e3:k<=b
    ·have e4:k+1<=b:=by omega
     cases M a b <;> cases M i m <;> cases M m b <;> simp[e1,e2,e3,e4]
    ·have e4:¬ k+1<=b:=by omega
     cases M a b <;> simp[e2,e3,e4]
  ·cases M a b <;> simp[e1]
theorem z7t (n m:Nat):∀ (d i:Nat) (M:Nat->Nat->Bool),n-i=d->∀ a b,fwI n m M i a b=(M a b||(decide (i<=a)&&decide (a<n)&&decide (b<n)&&M a m&&M m b)):=by
 intro d
 induction d with
 | zero=>
  intro i M hd a b;rw[z9b (by omega)]
  by_cases h1:i<=a <;> by_cases h2:a<n <;> simp[h1,h2] <;> omega
 | succ d ih=>
  intro i M hd a b;have hM:=ybj n m i _ 0 M rfl;rw[ybi (by omega),ih (i+1) _ (by omega) a b,hM a b,hM a m,hM m b];have ak:i<n:=by omega
  by_cases e1:a=i
  ·subst e1;have e4:¬ a+1<=a:=by omega
   cases M a b <;> cases M a m <;> cases M m b <;> simp[e4,ak]
  ·by_cases e3:i<=a
   ·have e4:i+1<=a:=by omega
    by_cases e5:m=i
    ·subst e5
     cases M a b <;> cases M a m <;> cases M m b <;> cases M m m <;> simp[e1,e3,e4]
    ·cases M a b <;> cases M a m <;> cases M m b <;> simp[e1,e3,e4,e5]
   ·have e4:¬ i+1<=a:=by omega
    cases M a b <;> simp[e1,e3,e4]
theorem zni (n:Nat):∀ (d m:Nat) (M:Nat->Nat->Bool),n-m=d->m<=n->(∀ i j k,i<n->k<n->j<m->M i j=true->M j k=true->M i k=true) ->
  (∀ i j k,i<n->k<n->j<n->fwM n M m i j=true->fwM n M m j k=true->fwM n M m i k=true)/\(∀ i k,M i k=true->fwM n M m i k=true):=by
 intro d
 induction d with
 | zero=>
  intro m M hd bf h;rw[z0c (by omega)];exact⟨λ i j k hi hk hj=>h i j k hi hk (by omega),λ i k h=>h⟩
 | succ d ih=>
  intro m M hd bf h;have hm:m<n:=by omega
  have hM:=z7t n m _ 0 M rfl;rw[z7u hm];have iq:∀ i j k,i<n->k<n->j<m+1->fwI n m M 0 i j=true->fwI n m M 0 j k=true->fwI n m M 0 i k=true:=by
   intro i j k hi hk hj h1 h2;have FD:j<n:=(by omega);rw[hM] at h1 h2 ⊢;simp only[Nat.zero_le,decide_true,Bool.true_and,hi,FD,hk,Bool.or_eq_true,Bool.and_eq_true] at h1 h2 ⊢
   by_cases ej:j=m
   ·subst ej;have a1:M i j=true:=(by rcases h1 with h1 | h1;exact h1;exact h1.1);have a2:M j k=true:=(by rcases h2 with h2 | h2;exact h2;exact h2.2);exact .inr ⟨a1,a2⟩
   ·have CI:j<m:=(by omega);rcases h1 with h1 | ⟨h1,my⟩ <;> rcases h2 with h2 | ⟨h2,rX⟩
    ·exact .inl (h i j k hi hk CI h1 h2)
    ·exact .inr ⟨h i j m hi hm CI h1 h2,rX⟩
    ·exact .inr ⟨h1,h m j k hm hk CI my h2⟩
    ·exact .inr ⟨h1,rX⟩
  obtain⟨g1,g2⟩:=ih (m+1) (fwI n m M 0) (by omega) (by omega) iq;exact⟨g1,λ i k hik=>g2 i k (by rw[hM,hik];rfl)⟩
variable {i j:Nat}
theorem z67 {M:Nat->Nat->Bool}{a b:Nat}(h:M a b=true):upd M i j a b=true:=by simp[upd,h]
variable {h:Nat} {ps:P9}
theorem zkq (l:List yQ):∀ {M:Nat->Nat->Bool} {a b:Nat},M a b=true->zqr ps h l M a b=true:=by
 induction l with
 | nil=>intro M a b hM;exact hM
 | cons A r ih=>intro M a b hM;exact ih (z67 hM)
theorem zwy (l:List yL):∀ {M:Nat->Nat->Bool} {a b:Nat},M a b=true->zs8 ps l M a b=true:=by
 induction l with
 | nil=>intro M a b hM;exact hM
 | cons R r ih=>intro M a b hM;exact ih (zkq R.body hM)
theorem zwx (l:List yQ):∀ {M:Nat->Nat->Bool} {A:yQ},A∈l->zqr ps h l M h (zcl ps A.pred)=true:=by
 induction l with
 | nil=>intro M A hA;cases hA
 | cons B r ih=>
  intro M A hA;rcases List.mem_cons.1 hA with rfl | hA
  ·exact zkq r (by simp[upd])
  ·exact ih hA
theorem zzy (l:List yL):∀ {M:Nat->Nat->Bool} {R:yL} {A:yQ},R∈l->A∈R.body->zs8 ps l M (zcl ps R.head.pred) (zcl ps A.pred)=true:=by
 induction l with
 | nil=>intro M R A hR;cases hR
 | cons B r ih=>
  intro M R A hR hA;rcases List.mem_cons.1 hR with rfl | hR
  ·exact zwy r (zwx R.body hA)
  ·exact ih hR hA
variable {rs:List yL}
theorem MB {R:yL}{A:yQ}(hR:R∈rs)(hA:A∈R.body):qP ps rs (zcl ps R.head.pred) (zcl ps A.pred)=true:=
 (zni ps.length _ 0 _ rfl (Nat.zero_le _) (by intro i j k _ _ hj;omega)).2 _ _ (zzy rs hR hA)
theorem zgg {k:Nat}(hi:i<ps.length)(hj:j<ps.length)(hk:k<ps.length)(h1:qP ps rs i j=true)(h2:qP ps rs j k=true):qP ps rs i k=true:=
 (zni ps.length _ 0 (zs8 ps rs (λ _ _=>false)) rfl (Nat.zero_le _) (by intro i j k _ _ hj;omega)).1 i j k hi hk hj h1 h2
variable {H:Nat->Nat->Bool}
theorem zwu {hd:B8}(l:List yQ)(h:zek ps H hd l<0):∀ A∈l,zwt ps H hd A=false:=by
 induction l with
 | nil=>simp
 | cons B r ih=>
  rw[zek] at h
  split at h
  ·omega
  ·rename_i hb;intro A hA;rcases List.mem_cons.1 hA with rfl | hA
   ·simpa using hb
   ·exact ih h A hA
theorem z4s (l:List yL)(h:zd7 ps H l<0):∀ R∈l,∀ A∈R.body,zwt ps H R.head.pred A=false:=by
 induction l with
 | nil=>simp
 | cons B r ih=>
  rw[zd7] at h
  split at h
  ·omega
  ·rename_i hb;intro R hR;rcases List.mem_cons.1 hR with rfl | hR
   ·exact zwu R.body (by omega)
   ·exact ih h R hR
theorem zzw {α:Type}{p r:α->Bool}(l:List α)(h:∀ x∈l,p x=true->r x=true){y:α}(hy:y∈l)(hr:r y=true)(hp:p y=false):l.countP p+1<=l.countP r:=by
 induction l with
 | nil=>cases hy
 | cons x t ih=>
  have hm:t.countP p<=t.countP r:=List.countP_mono_left (λ z hz=>h z (List.mem_cons_of_mem _ hz));rcases List.mem_cons.1 hy with rfl | hy
  ·rw[List.countP_cons_of_pos hr,List.countP_cons_of_neg (by rw[hp];decide)];omega
  ·have h1:=ih (λ z hz=>h z (List.mem_cons_of_mem _ hz)) hy
   cases e:p x with
   | true=>rw[List.countP_cons_of_pos e,List.countP_cons_of_pos (h x List.mem_cons_self e)];omega
   | false=>
    rw[List.countP_cons_of_neg (by rw[e];decide)];have:t.countP r<=(x::t).countP r:=by
     cases e2:r x with
     | true=>rw[List.countP_cons_of_pos e2];omega
     | false=>rw[List.countP_cons_of_neg (by rw[e2];decide)];omega
    omega
def z7x (ps:P9)(rs:List yL)(p x:Nat):Bool:=
 rs.any λ R=>R.body.any λ A=>A.no&&((p==zcl ps R.head.pred||qP ps rs p (zcl ps R.head.pred))&&(zcl ps A.pred==x||qP ps rs (zcl ps A.pred) x))
theorem zm7 (ps:P9)(rs:List yL)(bh:zss ps (rs.flatMap yL.atoms))(h:¬ 0<=zd7 ps (qP ps rs) rs):∃ f,ya6 ps rs f/\∀ i,f i<=ps.length:=by
 have cP:=z4s rs (show zd7 ps (qP ps rs) rs<0 by omega);have nC:∀ R∈rs,0<=xJ ps R.head.pred:=λ R hR=>bh _ (List.mem_flatMap.2 ⟨R,hR,List.mem_cons_self⟩)
 have cU:∀ R∈rs,∀ A∈R.body,0<=xJ ps A.pred:=λ R hR A hA=>bh _ (List.mem_flatMap.2 ⟨R,hR,List.mem_cons_of_mem _ hA⟩)
 have DG:∀ R∈rs,zcl ps R.head.pred<ps.length:=λ R hR=>zc5 (nC R hR)
 have AN:∀ R∈rs,∀ A∈R.body,zcl ps A.pred<ps.length:=λ R hR A hA=>zc5 (cU R hR A hA)
 refine⟨λ p=>(List.range ps.length).countP (z7x ps rs p),λ R hR A hA=>?_,λ i=>by have:=List.countP_le_length (p:=z7x ps rs i) (l:=List.range ps.length);simpa using this⟩;have FW:=MB (ps:=ps) hR hA;have himp:∀ x∈List.range ps.length,z7x ps rs (zcl ps A.pred) x=true->z7x ps rs (zcl ps R.head.pred) x=true:=by
  intro x _ hx;unfold z7x at hx ⊢;simp only[List.any_eq_true,Bool.and_eq_true,Bool.or_eq_true,beq_iff_eq] at hx ⊢;obtain⟨R',qf,A',IB,hn,h1,h2⟩:=hx;refine⟨R',qf,A',IB,hn,.inr ?_,h2⟩;rcases h1 with h1 | h1
  ·rw[<-h1];exact FW
  ·exact zgg (DG R hR) (AN R hR A hA) (DG R' qf) FW h1
 unfold yaz
 cases Dc:A.no with
 | false=>
  simp only[Bool.false_eq_true,if_false,Nat.add_zero];exact List.countP_mono_left himp
 | true=>
  simp only[if_true];refine zzw _ himp (y:=zcl ps A.pred) (List.mem_range.2 (AN R hR A hA)) ?_ ?_
  ·unfold z7x;simp only[List.any_eq_true,Bool.and_eq_true,Bool.or_eq_true,beq_iff_eq];exact⟨R,hR,A,hA,Dc,.inl rfl,.inl rfl⟩
  ·cases hq:z7x ps rs (zcl ps A.pred) (zcl ps A.pred) with
   | false=>rfl
   | true=>
    exfalso
    unfold z7x at hq;simp only[List.any_eq_true,Bool.and_eq_true,Bool.or_eq_true,beq_iff_eq] at hq;obtain⟨R',qf,A',IB,hn,h1,h2⟩:=hq;have hc:=cP R' qf A' IB;unfold zwt at hc;rw[hn,Bool.true_and,Bool.or_eq_false_iff] at hc;obtain⟨mC,nA⟩:=hc;have lq:=AN R hR A hA;have la:=DG R' qf;have lb:=AN R' qf A' IB;have key:zcl ps A'.pred=zcl ps R'.head.pred\/qP ps rs (zcl ps A'.pred) (zcl ps R'.head.pred)=true:=by
     rcases h2 with h2 | h2 <;> rcases h1 with h1 | h1
     ·exact .inl (h2.trans h1)
     ·exact .inr (by rw[h2];exact h1)
     ·exact .inr (by rw[<-h1];exact h2)
     ·exact .inr (zgg lb lq la h2 h1)
    rcases key with key | key
    ·have p1:=cU R' qf A' IB;have p2:=nC R' qf;unfold zcl at key;have:xJ ps A'.pred=xJ ps R'.head.pred:=by omega
     rw[this] at mC;simp at mC
    ·rw[key] at nA;cases nA
end
section
variable {ms:List yT} {rs:List yL} {n:Nat}
theorem z26 (h:jR n rs ms):∃ Q:List (yQ × yT),Q.map (·.1)=rs.flatMap yL.atoms/\Q.map (·.2)=ms/\∀ x∈Q,∃ i,zi3 i x.1 x.2:=by
 induction h with
 | nil n=>exact⟨[],rfl,rfl,by simp⟩
 | cons h t ih=>
  obtain⟨q,q1,q2,q3⟩:=h;obtain⟨Q,Q1,Q2,Q3⟩:=ih;refine⟨q++Q,by simp[q1,Q1],by simp[q2,Q2],λ x hx=>?_⟩;rcases List.mem_append.1 hx with hx | hx
  ·exact⟨_,q3 x hx⟩
  ·exact Q3 x hx
theorem zrj:∀ (Q:List (yQ × yT)) (ps:P9),(∀ x∈Q,∃ i,zi3 i x.1 x.2)->zae (Q.map (·.2)) ps=(zal (Q.map (·.1)) ps).1
 | [],ps,_=>rfl
 | x::r,ps,h=>by
  obtain⟨i,hx⟩:=h x List.mem_cons_self;have ih:=λ ps'=>zrj r ps' (λ y hy=>h y (List.mem_cons_of_mem _ hy))
  have e1:x.2.ts.length=x.1.aS.length:=by rw[hx.ts];simp
  simp only[List.map_cons,zae,zal];rw[hx.pd,e1,ih,hx.place]
  split <;> rfl
def vL {α:Type}(F:α->Int):List α->Int
 | []=>-1
 | x::r=>if 0<=F x then F x else vL F r
theorem zjb {α:Type}(F:α->Int)(b:List α):∀ (a:List α),vL F (a++b)=if 0<=vL F a then vL F a else vL F b
 | []=>by simp[vL]
 | x::r=>by
  rw[List.cons_append,vL,vL,zjb F b r]
  by_cases h:0<=F x
  ·simp[h]
  ·simp[h]
theorem zoc (h:jR n rs ms)(F:yT->Int)(G:yL->Int):(∀ i R ms',rs[i]?=some R->ca (n+i) R.atoms ms'->vL F ms'=G R)->vL F ms=vL G rs:=by
 induction h with
 | nil n=>intro _;rfl
 | @cons n R rs ms ms' h t ih=>
  intro hG;have h1:=hG 0 R ms rfl h
  have h2:=ih (λ i R' ms'' hi hm=>hG (i+1) R' ms'' (by simpa using hi) (by
   have e:n+(i+1)=n+1+i:=by omega
   rw[e];exact hm))
  rw[zjb,h1,h2,vL]
theorem zra {i:Nat}{l:List yQ}(h:ca i l ms)(F:yT->Int)(G:yQ->Int)(hG:∀ A∈l,∀ M,zi3 i A M->F M=G A):vL F ms=vL G l:=by
 obtain⟨q,rfl,rfl,q3⟩:=h
 induction q with
 | nil=>rfl
 | cons x r ih=>
  have h1:=hG x.1 (by simp) x.2 (q3 x List.mem_cons_self);have h2:=ih (λ A hA M hM=>hG A (List.mem_cons_of_mem _ hA) M hM) (λ y hy=>q3 y (List.mem_cons_of_mem _ hy));simp only[List.map_cons,vL,h1,h2]
theorem ybl (v:B8)(l:List zea):zkx v (l.map aM)=l.any (Mj v):=by
 unfold zkx;rw[List.any_map];rfl
theorem z4k (v:B8)(body:List yQ):zeh v (body.map aW)=zpr v body:=by
 unfold zeh zpr
 induction body with
 | nil=>rfl
 | cons A r ih=>
  rw[List.map_cons,List.filter_cons,List.any_cons,<-ih]
  cases hn:A.no with
  | true=>simp[aW,hn,z2m]
  | false=>simp[aW,hn,z2m,ybl]
theorem zvo (body:List yQ)(pl:Nat->Nat):∀ (l:List zea) (k:Nat),(∀ i (h:i<l.length),pl (k+i)=(l[i]).at_)->(match xH (body.map aW) (l.map aM) k with | some i=>(pl i:Int) | none=>-1)=zar body l
 | [],k,_=>rfl
 | t::r,k,h=>by
  have ih:=zvo body pl r (k+1) (λ i hi=>by
   have:=h (i+1) (by simpa using hi)
   rw[show k+1+i=k+(i+1) by omega,this];simp)
  simp only[List.map_cons,xH,zar];rw[show (aM t).1=t.isVar from rfl,show (aM t).2=t.text from rfl,z4k]
  by_cases hc:(t.isVar&&!zpr t.text body)=true
  ·rw[if_pos hc,if_pos hc];have:=h 0 (by simp);simp only[Nat.add_zero,List.getElem_cons_zero] at this;simp only[this]
  ·rw[if_neg hc,if_neg hc];exact ih
theorem z02 {body:List yQ}{A:yQ}(hA:A∈body)(hn:A.no=false):zar body A.aS=-1:=by
 have key:∀ l:List zea,(∀ t∈l,t∈A.aS)->zar body l=-1:=by
  intro l
  induction l with
  | nil=>intro _;rfl
  | cons t r ih=>
   intro h;rw[zar,if_neg,ih (λ u hu=>h u (List.mem_cons_of_mem _ hu))]
   cases hv:t.isVar with
   | false=>simp
   | true=>
    have hs:zpr t.text body=true:=by
     unfold zpr;rw[List.any_eq_true];refine⟨A,hA,?_⟩;unfold z2m;rw[hn];simp only[Bool.not_false,Bool.true_and];rw[List.any_eq_true];exact⟨t,h t List.mem_cons_self,by simp[Mj,hv]⟩
    simp[hs]
 exact key A.aS (λ t h=>h)
theorem zey (body:List yQ):∀ l:List yQ,(∀ A∈l,A∈body)->zbs body l=vL (λ A=>zar body A.aS) l
 | [],_=>rfl
 | A::r,h=>by
  rw[zbs,vL,<-zey body r (λ B hB=>h B (List.mem_cons_of_mem _ hB))]
  cases hn:A.no with
  | true=>simp
  | false=>
   rw[z02 (h A List.mem_cons_self) hn];simp
theorem zjn:∀ rs:List yL,za6 rs=vL zez rs
 | []=>rfl
 | R::r=>by rw[za6,vL,zjn r]
def ycj (rs:List yK)(M:yT):Int:=match xH (zei rs M.num) M.ts 0 with | some i=>(M.pl i:Int) | none=>-1
theorem zhx (rs:List yK):∀ ms:List yT,vH rs ms=vL (ycj rs) ms
 | []=>rfl
 | M::r=>by
  rw[vH,vL,<-zhx rs r];unfold ycj
  cases xH (zei rs M.num) M.ts 0 with
  | none=>simp
  | some i=>simp
theorem zyn (h:jR 0 rs ms):vH (rs.map yM) ms=za6 rs:=by
 rw[zhx,zjn];refine zoc h _ _ (λ i R ms' hi hm=>?_);rw[Nat.zero_add] at hm;have hb:zei (rs.map yM) i=R.body.map aW:=by
  unfold zei;rw[List.getElem?_map,hi];rfl
 rw[zra hm (ycj (rs.map yM)) (λ A=>zar R.body A.aS) (λ A _ M hM=>?_)]
 ·unfold yL.atoms zez;rw[vL,zey R.body R.body (λ A hA=>hA)]
 ·unfold ycj;rw[hM.num,hb,hM.ts];exact zvo R.body M.pl A.aS 0 (λ i hi=>by rw[Nat.zero_add];exact hM.pl i hi)
theorem z0o (nm:B8):∀ (l:P9) (k:Nat),0<=xS nm l k->(l.getD (xS nm l k-k).toNat (nm,0)).1=nm
 | [],k,h=>by simp[xS] at h
 | x::r,k,h=>by
  unfold xS at h ⊢
  by_cases hx:(x.1.toList==nm.toList)=true
  ·rw[if_pos hx];simp;exact yD.1 hx
  ·rw[if_neg hx] at h ⊢;have ih:=z0o nm r (k+1) h;have:=(z44 nm r (k+1) h).1;have e:(xS nm r (k+1)-(k:Int)).toNat=(xS nm r (k+1)-((k+1:Nat):Int)).toNat+1:=(by omega);rw[e];simpa using ih
def ych (ps:P9)(i:Nat):B8:=(ps.getD i ({ data:=#[] },0)).1
variable {ps:P9}
theorem zxo {x:B8}(h:0<=xJ ps x):ych ps (zcl ps x)=x:=by
 have h1:=z0o x ps 0 h;have bP:=zc5 h;unfold ych zcl;rw[show xS x ps 0=xJ ps x from rfl] at h1;simp only[Int.natCast_zero,Int.sub_zero] at h1;rw[List.getD_eq_getElem?_getD,List.getElem?_eq_getElem bP] at h1 ⊢;simpa using h1
variable {a b:B8}
theorem z9g (ha:0<=xJ ps a)(hb:0<=xJ ps b):(xJ ps a==xJ ps b)=(a.toList==b.toList):=by
 rw[Bool.eq_iff_iff]
 constructor
 ·intro h;have h1:xJ ps a=xJ ps b:=by simpa using h
  have h2:=zxo ha;rw[show zcl ps a=zcl ps b by unfold zcl;rw[h1],zxo hb] at h2;rw[h2];simp
 ·intro h;rw[yD.1 h];simp
theorem zk7 {x y:B8}:(x,y)∈xR (rs.map yM)↔∃ R∈rs,∃ A∈R.body,x=R.head.pred/\y=A.pred:=by
 unfold xR zfx
 constructor
 ·intro h;obtain⟨P,hP,h⟩:=List.mem_flatMap.1 h;obtain⟨R,hR,rfl⟩:=List.mem_map.1 hP;obtain⟨L,hL,h⟩:=List.mem_map.1 h;obtain⟨A,hA,rfl⟩:=List.mem_map.1 hL;injection h with h1 h2
  exact⟨R,hR,A,hA,h1.symm,h2.symm⟩
 ·rintro⟨R,hR,A,hA,rfl,rfl⟩;exact List.mem_flatMap.2 ⟨yM R,List.mem_map_of_mem hR,List.mem_map.2 ⟨aW A,List.mem_map_of_mem hA,rfl⟩⟩
theorem zja {ps:P9}{h:Nat}:∀ (l:List yQ) {M:Nat->Nat->Bool} {a b:Nat},zqr ps h l M a b=true->M a b=true\/(a=h/\∃ A∈l,b=zcl ps A.pred)
 | [],M,a,b,hm=>.inl hm
 | A::r,M,a,b,hm=>by
  rcases zja r hm with h1 | ⟨h1,B,hB,h2⟩
  ·unfold upd at h1;simp at h1;rcases h1 with⟨h1,h2⟩ | h1
   ·exact .inr ⟨h1,A,List.mem_cons_self,h2⟩
   ·exact .inl h1
  ·exact .inr ⟨h1,B,List.mem_cons_of_mem _ hB,h2⟩
theorem zkr {ps:P9}:∀ (l:List yL) {M:Nat->Nat->Bool} {a b:Nat},zs8 ps l M a b=true->M a b=true\/∃ R∈l,a=zcl ps R.head.pred/\∃ A∈R.body,b=zcl ps A.pred
 | [],M,a,b,hm=>.inl hm
 | R::r,M,a,b,hm=>by
  rcases zkr r hm with h1 | ⟨R',hR,h1⟩
  ·rcases zja R.body h1 with h2 | ⟨h2,A,hA,h3⟩
   ·exact .inl h2
   ·exact .inr ⟨R,List.mem_cons_self,h2,A,hA,h3⟩
  ·exact .inr ⟨R',List.mem_cons_of_mem _ hR,h1⟩
theorem z0d (P:Nat->Nat->Prop)(hP:∀ a b c,P a b->P b c->P a c)(n:Nat):∀ (d m:Nat) (M:Nat->Nat->Bool),n-m=d->(∀ a b,M a b=true->P a b)->∀ a b,fwM n M m a b=true->P a b:=by
 intro d
 induction d with
 | zero=>
  intro m M hd hM a b h;rw[z0c (by omega)] at h;exact hM a b h
 | succ d ih=>
  intro m M hd hM a b h;rw[z7u (by omega)] at h;refine ih (m+1) _ (by omega) (λ x y km=>?_) a b h;rw[z7t n m (n-0) 0 M rfl] at km;simp at km;rcases km with h1 | h1
  ·exact hM x y h1
  ·exact hP x m y (hM x m h1.1.2) (hM m y h1.2)
theorem zt0 {E:List zgu}{c:B8}(h:zdf E a b)(t:zdf E b c):zdf E a c:=by
 induction t with
 | one h1=>exact .next h h1
 | next _ h1 ih=>exact .next ih h1
theorem z41 (bh:zss ps (rs.flatMap yL.atoms))(ha:0<=xJ ps a)(hb:0<=xJ ps b):zeo (xR (rs.map yM)) a b=qP ps rs (zcl ps a) (zcl ps b):=by
 have KZ:∀ R∈rs,0<=xJ ps R.head.pred:=λ R hR=>bh _ (List.mem_flatMap.2 ⟨R,hR,List.mem_cons_self⟩)
 have jb:∀ R∈rs,∀ A∈R.body,0<=xJ ps A.pred:=λ R hR A hA=>bh _ (List.mem_flatMap.2 ⟨R,hR,List.mem_cons_of_mem _ hA⟩)
 rw[Bool.eq_iff_iff];unfold zeo;simp only[decide_eq_true_eq]
 constructor
 ·intro h;have key:∀ y,zdf (xR (rs.map yM)) a y->qP ps rs (zcl ps a) (zcl ps y)=true/\0<=xJ ps y:=by
   intro y hy
   induction hy with
   | one h1=>
    obtain⟨R,hR,A,hA,rfl,rfl⟩:=zk7.1 h1;exact⟨MB hR hA,jb R hR A hA⟩
   | next t h1 ih=>
    obtain⟨R,hR,A,hA,rfl,rfl⟩:=zk7.1 h1;exact⟨zgg (zc5 ha) (zc5 ih.2) (zc5 (jb R hR A hA)) ih.1 (MB hR hA),jb R hR A hA⟩
  exact (key b h).1
 ·intro h;have:=z0d (λ i j=>zdf (xR (rs.map yM)) (ych ps i) (ych ps j)) (λ _ _ _=>zt0) ps.length ps.length 0 (zs8 ps rs (λ _ _=>false)) rfl (λ i j hij=>?_) _ _ h
  ·rw[zxo ha,zxo hb] at this;exact this
  ·rcases zkr rs hij with h1 | ⟨R,hR,rfl,A,hA,rfl⟩
   ·cases h1
   ·simp only[zxo (KZ R hR),zxo (jb R hR A hA)];exact .one (zk7.2 ⟨R,hR,A,hA,rfl,rfl⟩)
theorem zg4 (ps:P9)(H:Nat->Nat->Bool)(hd:B8):∀ l:List yQ,zek ps H hd l=vL (λ A=>if zwt ps H hd A then (A.rz:Int) else -1) l
 | []=>rfl
 | A::r=>by
  rw[zek,vL,<-zg4 ps H hd r]
  by_cases h:zwt ps H hd A=true
  ·simp[h]
  ·simp[h]
theorem zi8 (ps:P9)(H:Nat->Nat->Bool):∀ rs:List yL,zd7 ps H rs=vL (λ R=>zek ps H R.head.pred R.body) rs
 | []=>rfl
 | R::r=>by rw[zd7,vL,zi8 ps H r]
theorem zi9 (rs:List yK):∀ ms:List yT,jX rs ms=vL (λ M=>if z3r rs M then (M.start:Int) else -1) ms
 | []=>rfl
 | M::r=>by
  rw[jX,vL,<-zi9 rs r]
  by_cases h:z3r rs M=true
  ·simp[h]
  ·simp[h]
theorem z4r (h:jR 0 rs ms)(bh:zss ps (rs.flatMap yL.atoms))(cP:∀ R∈rs,R.head.no=false):jX (rs.map yM) ms=zd7 ps (qP ps rs) rs:=by
 rw[zi9,zi8];refine zoc h _ _ (λ i R ms' hi hm=>?_);rw[Nat.zero_add] at hm;have hR:R∈rs:=List.mem_of_getElem? hi;have hh:zjd (rs.map yM) i=R.head.pred:=by
  unfold zjd;rw[List.getElem?_map,hi];rfl
 have hp:=bh R.head (List.mem_flatMap.2 ⟨R,hR,List.mem_cons_self⟩);rw[zra hm _ (λ A=>if zwt ps (qP ps rs) R.head.pred A then (A.rz:Int) else -1) (λ A hA M hM=>?_)]
 ·unfold yL.atoms;rw[vL,zg4];have:zwt ps (qP ps rs) R.head.pred R.head=false:=by unfold zwt;rw[cP R hR];rfl
  simp[this]
 ·have ze:=bh A (List.mem_flatMap.2 ⟨R,hR,hA⟩);have e:z3r (rs.map yM) M=zwt ps (qP ps rs) R.head.pred A:=by
   unfold z3r zwt;rw[hM.num,hh,hM.neg,hM.pd,z41 bh ze hp,z9g ze hp]
  simp only[e]
  by_cases hc:zwt ps (qP ps rs) R.head.pred A=true
  ·rw[if_pos hc,if_pos hc];have:A.no=true:=by unfold zwt at hc;simp at hc;exact hc.1
   rw[hM.start this]
  ·rw[if_neg hc,if_neg hc]
theorem zx9 {s:B8}(f:Nat):∀ {p:Nat} {bd:Int} {l:List yL},(∀ R∈l,R.head.no=false)->∀ R∈(zc7 s f p bd l).1,R.head.no=false:=by
 induction f with
 | zero=>intro p bd l h;exact h
 | succ f ih=>
  intro p bd l h;rw[zc7]
  split
  ·refine ih (λ R hR=>?_);rcases List.mem_append.1 hR with hR | hR
   ·exact h R hR
   ·simp at hR;subst hR;rfl
  ·exact h
theorem zth (s:B8):zxw s=xY s:=by
 unfold zxw xY
 by_cases c0:800<s.size
 ·rw[if_pos c0,if_pos c0]
 ·rw[if_neg c0,if_neg c0]
  cases c1:(zN s).1 with
  | false=>
   have h:=(zhj s).2 c1;rw[if_pos rfl,h,if_pos (by omega)]
  | true=>
   obtain⟨h1,h2,h3⟩:=(zhj s).1 c1;rw[if_neg (show ¬ (true=false) by decide),h1,if_neg (show ¬ ((0:Int)<=-1) by decide),h2];obtain⟨Q,Q1,Q2,Q3⟩:=z26 h3;have ea:zae (zN s).2.2.2 []=(zH s).1:=by
    unfold zH;rw[<-Q1,<-Q2];exact zrj Q [] Q3
   have eu:=zyn h3;unfold zcu;rw[ea,eu]
   by_cases c2:0<=(zH s).1
   ·simp[c2]
   ·have bh:zss (zH s).2 ((vA s).1.flatMap yL.atoms):=zgv _ c2;have ec:=z4r h3 bh (zx9 31 (by simp));rw[ec];rw[if_neg c2,if_neg c2]
    by_cases c3:0<=za6 (vA s).1
    ·simp[c3]
    ·rw[if_neg c3,if_neg c3]
     by_cases c4:0<=zd7 (zH s).2 (qP (zH s).2 (vA s).1) (vA s).1
     ·simp[c4]
     ·simp[c4]
end
end Go.Proofs.YtldkpahaocjdpaaGreat
