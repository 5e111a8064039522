/-
  Plain: where no predicate has two numbers of terms all are there; where nothing hangs on its own not being so, some numbers keep to the rules.
-/
import Derived.Test.YtldkpahaocjdpaaGreatE23
set_option maxHeartbeats 16000000
set_option maxRecDepth 1000000
namespace Go.Proofs.YtldkpahaocjdpaaGreat
section
theorem z7j (l:List zL):∀ ps,(yN l ps).2.length<=ps.length+l.length:=by
 induction l with
 | nil=>intro ps;simp[yN]
 | cons A r ih=>
  intro ps;have h:=zpo ps A.pred A.ae.length;rw[yN]
  split
  ·have:=ih (qW ps A.pred A.ae.length);simp only[List.length_cons];omega
  ·simp only[List.length_cons];omega
theorem zro (nm:B8)(m:P9):∀ (l:P9) (k:Nat),0<=xR nm l k->xR nm (l++m) k=xR nm l k
 | [],k,h=>by simp[xR] at h
 | x::r,k,h=>by
  rw[List.cons_append];unfold xR at h ⊢
  split
  ·rfl
  ·rename_i bF;rw[if_neg bF] at h;exact zro nm m r (k+1) h
theorem z2t (nm:B8)(n:Nat):∀ (l:P9) (k:Nat),0<=xR nm (l++[(nm,n)]) k
 | [],k=>by simp[xR]
 | x::r,k=>by
  rw[List.cons_append];unfold xR
  split
  ·omega
  ·exact z2t nm n r (k+1)
theorem z7i (ps:P9)(nm:B8)(n:Nat):0<=zM (qW ps nm n) nm:=by
 unfold qW;split
 ·exact z2t nm n ps 0
 ·omega
theorem zuj (ps:P9)(nm:B8)(n:Nat)(x:B8)(h:0<=zM ps x):0<=zM (qW ps nm n) x:=by
 unfold qW;split
 ·unfold zM at *;rw[zro x _ ps 0 h];exact h
 ·exact h
theorem zyw (l:List zL):∀ ps,(yN l ps).1<0->(∀ A∈l,0<=zM (yN l ps).2 A.pred)/\(∀ nm,0<=zM ps nm->0<=zM (yN l ps).2 nm):=by
 induction l with
 | nil=>intro ps _;exact⟨by simp,λ nm h=>h⟩
 | cons A r ih=>
  intro ps h;rw[yN] at h ⊢
  split
  ·rename_i hb;rw[if_pos hb] at h;obtain⟨h1,h2⟩:=ih _ h;refine⟨λ B hB=>?_,λ nm hn=>h2 nm (zuj ps A.pred A.ae.length nm hn)⟩;rcases List.mem_cons.1 hB with rfl | hB
   ·exact h2 _ (z7i ps B.pred B.ae.length)
   ·exact h1 B hB
  ·rename_i hb;rw[if_neg hb] at h;simp at h;omega
theorem zeh (l:List zL)(h:¬ 0<=(yN l []).1):zgi (yN l []).2 l:=(zyw l [] (by omega)).1
theorem ydd (n m i:Nat):∀ (d k:Nat) (M:Nat->Nat->Bool),n-k=d->∀ a b,fwK n m i M k a b=(M a b||(decide (a=i)&&decide (k<=b)&&decide (b<n)&&M i m&&M m b)):=by
 intro d
 induction d with
 | zero=>
  intro k M hd a b;rw[z2f (by omega)];have:¬ (k<=b/\b<n):=by omega
  by_cases h1:k<=b <;> by_cases h2:b<n <;> simp[h1,h2] <;> omega
 | succ d ih=>
  intro k M hd a b;rw[z9t (by omega),ih (k+1) _ (by omega) a b];have hM:∀ a b,(if M i m&&M m k then upd M i k else M) a b=(M a b||(decide (a=i)&&decide (b=k)&&M i m&&M m k)):=by
   intro a b
   cases h1:M i m <;> cases h2:M m k <;> simp[upd,Bool.or_comm]
  rw[hM a b,hM i m,hM m b];have P8:k<n:=by omega
  by_cases e1:a=i
  ·by_cases e2:b=k
   ·subst e2
    cases M a b <;> cases M i m <;> cases M m b <;> simp[e1,P8]
   ·by_cases e3:k<=b
    ·have e4:k+1<=b:=by omega
     cases M a b <;> cases M i m <;> cases M m b <;> simp[e1,e2,e3,e4]
    ·have e4:¬ k+1<=b:=by omega
     cases M a b <;> simp[e2,e3,e4]
  ·cases M a b <;> simp[e1]
theorem z9r (n m:Nat):∀ (d i:Nat) (M:Nat->Nat->Bool),n-i=d->∀ a b,fwI n m M i a b=(M a b||(decide (i<=a)&&decide (a<n)&&decide (b<n)&&M a m&&M m b)):=by
 intro d
 induction d with
 | zero=>
  intro i M hd a b;rw[z2e (by omega)]
  by_cases h1:i<=a <;> by_cases h2:a<n <;> simp[h1,h2] <;> omega
 | succ d ih=>
  intro i M hd a b;have hM:=ydd n m i _ 0 M rfl;rw[z9s (by omega),ih (i+1) _ (by omega) a b,hM a b,hM a m,hM m b];have ax:i<n:=by omega
  by_cases e1:a=i
  ·subst e1;have e4:¬ a+1<=a:=by omega
   cases M a b <;> cases M a m <;> cases M m b <;> simp[e4,ax]
  ·by_cases e3:i<=a
   ·have e4:i+1<=a:=by omega
    by_cases e5:m=i
    ·subst e5
     cases M a b <;> cases M a m <;> cases M m b <;> cases M m m <;> simp[e1,e3,e4]
    ·cases M a b <;> cases M a m <;> cases M m b <;> simp[e1,e3,e4,e5]
   ·have e4:¬ i+1<=a:=by omega
    cases M a b <;> simp[e1,e3,e4]
theorem zn2 (n:Nat):∀ (d m:Nat) (M:Nat->Nat->Bool),n-m=d->m<=n->(∀ i j k,i<n->k<n->j<m->M i j=true->M j k=true->M i k=true) ->
  (∀ i j k,i<n->k<n->j<n->fwM n M m i j=true->fwM n M m j k=true->fwM n M m i k=true)/\(∀ i k,M i k=true->fwM n M m i k=true):=by
 intro d
 induction d with
 | zero=>
  intro m M hd pD h;rw[zt8 (by omega)];exact⟨λ i j k hi hk hj=>h i j k hi hk (by omega),λ i k h=>h⟩
 | succ d ih=>
  intro m M hd pD h;have hm:m<n:=by omega
  have hM:=z9r n m _ 0 M rfl;rw[z2g hm];have dJ:∀ i j k,i<n->k<n->j<m+1->fwI n m M 0 i j=true->fwI n m M 0 j k=true->fwI n m M 0 i k=true:=by
   intro i j k hi hk hj h1 h2;have TZ:j<n:=(by omega);rw[hM] at h1 h2 ⊢;simp only[Nat.zero_le,decide_true,Bool.true_and,hi,TZ,hk,Bool.or_eq_true,Bool.and_eq_true] at h1 h2 ⊢
   by_cases ej:j=m
   ·subst ej;have a1:M i j=true:=(by rcases h1 with h1 | h1;exact h1;exact h1.1);have a2:M j k=true:=(by rcases h2 with h2 | h2;exact h2;exact h2.2);exact .inr ⟨a1,a2⟩
   ·have P5:j<m:=(by omega);rcases h1 with h1 | ⟨h1,Pg⟩ <;> rcases h2 with h2 | ⟨h2,S5⟩
    ·exact .inl (h i j k hi hk P5 h1 h2)
    ·exact .inr ⟨h i j m hi hm P5 h1 h2,S5⟩
    ·exact .inr ⟨h1,h m j k hm hk P5 Pg h2⟩
    ·exact .inr ⟨h1,S5⟩
  obtain⟨g1,g2⟩:=ih (m+1) (fwI n m M 0) (by omega) (by omega) dJ;exact⟨g1,λ i k KL=>g2 i k (by rw[hM,KL];rfl)⟩
variable {i j:Nat}
theorem z85 {M:Nat->Nat->Bool}{a b:Nat}(h:M a b=true):upd M i j a b=true:=by simp[upd,h]
variable {h:Nat} {ps:P9}
theorem zk7 (l:List zL):∀ {M:Nat->Nat->Bool} {a b:Nat},M a b=true->zgr ps h l M a b=true:=by
 induction l with
 | nil=>intro M a b hM;exact hM
 | cons A r ih=>intro M a b hM;exact ih (z85 hM)
theorem zx7 (l:List zS):∀ {M:Nat->Nat->Bool} {a b:Nat},M a b=true->zh4 ps l M a b=true:=by
 induction l with
 | nil=>intro M a b hM;exact hM
 | cons R r ih=>intro M a b hM;exact ih (zk7 R.body hM)
theorem zx6 (l:List zL):∀ {M:Nat->Nat->Bool} {A:zL},A∈l->zgr ps h l M h (qJ ps A.pred)=true:=by
 induction l with
 | nil=>intro M A hA;cases hA
 | cons B r ih=>
  intro M A hA;rcases List.mem_cons.1 hA with rfl | hA
  ·exact zk7 r (by simp[upd])
  ·exact ih hA
theorem z10 (l:List zS):∀ {M:Nat->Nat->Bool} {R:zS} {A:zL},R∈l->A∈R.body->zh4 ps l M (qJ ps R.head.pred) (qJ ps A.pred)=true:=by
 induction l with
 | nil=>intro M R A hR;cases hR
 | cons B r ih=>
  intro M R A hR hA;rcases List.mem_cons.1 hR with rfl | hR
  ·exact zx7 r (zx6 R.body hA)
  ·exact ih hR hA
variable {rs:List zS}
theorem RP {R:zS}{A:zL}(hR:R∈rs)(hA:A∈R.body):vI ps rs (qJ ps R.head.pred) (qJ ps A.pred)=true:=
 (zn2 ps.length _ 0 _ rfl (Nat.zero_le _) (by intro i j k _ _ hj;omega)).2 _ _ (z10 rs hR hA)
theorem zhb {k:Nat}(hi:i<ps.length)(hj:j<ps.length)(hk:k<ps.length)(h1:vI ps rs i j=true)(h2:vI ps rs j k=true):vI ps rs i k=true:=
 (zn2 ps.length _ 0 (zh4 ps rs (λ _ _=>false)) rfl (Nat.zero_le _) (by intro i j k _ _ hj;omega)).1 i j k hi hk hj h1 h2
variable {H:Nat->Nat->Bool}
theorem zx3 {hd:B8}(l:List zL)(h:j5 ps H hd l<0):∀ A∈l,zo9 ps H hd A=false:=by
 induction l with
 | nil=>simp
 | cons B r ih=>
  rw[j5] at h
  split at h
  ·omega
  ·rename_i hb;intro A hA;rcases List.mem_cons.1 hA with rfl | hA
   ·simpa using hb
   ·exact ih h A hA
theorem z6y (l:List zS)(h:vN ps H l<0):∀ R∈l,∀ A∈R.body,zo9 ps H R.head.pred A=false:=by
 induction l with
 | nil=>simp
 | cons B r ih=>
  rw[vN] at h
  split at h
  ·omega
  ·rename_i hb;intro R hR;rcases List.mem_cons.1 hR with rfl | hR
   ·exact zx3 R.body (by omega)
   ·exact ih h R hR
theorem z1u {α:Type}{p r:α->Bool}(l:List α)(h:∀ x∈l,p x=true->r x=true){y:α}(hy:y∈l)(hr:r y=true)(hp:p y=false):l.countP p+1<=l.countP r:=by
 induction l with
 | nil=>cases hy
 | cons x t ih=>
  have hm:t.countP p<=t.countP r:=List.countP_mono_left (λ z hz=>h z (List.mem_cons_of_mem _ hz));rcases List.mem_cons.1 hy with rfl | hy
  ·rw[List.countP_cons_of_pos hr,List.countP_cons_of_neg (by rw[hp];decide)];omega
  ·have h1:=ih (λ z hz=>h z (List.mem_cons_of_mem _ hz)) hy
   cases e:p x with
   | true=>rw[List.countP_cons_of_pos e,List.countP_cons_of_pos (h x List.mem_cons_self e)];omega
   | false=>
    rw[List.countP_cons_of_neg (by rw[e];decide)];have:t.countP r<=(x::t).countP r:=by
     cases e2:r x with
     | true=>rw[List.countP_cons_of_pos e2];omega
     | false=>rw[List.countP_cons_of_neg (by rw[e2];decide)];omega
    omega
def z9w (ps:P9)(rs:List zS)(p x:Nat):Bool:=
 rs.any λ R=>R.body.any λ A=>A.no&&((p==qJ ps R.head.pred||vI ps rs p (qJ ps R.head.pred))&&(qJ ps A.pred==x||vI ps rs (qJ ps A.pred) x))
theorem zgz (ps:P9)(rs:List zS)(aS:zgi ps (rs.flatMap zS.atoms))(h:¬ 0<=vN ps (vI ps rs) rs):∃ f,zef ps rs f/\∀ i,f i<=ps.length:=by
 have aX:=z6y rs (show vN ps (vI ps rs) rs<0 by omega);have vd:∀ R∈rs,0<=zM ps R.head.pred:=λ R hR=>aS _ (List.mem_flatMap.2 ⟨R,hR,List.mem_cons_self⟩)
 have dh:∀ R∈rs,∀ A∈R.body,0<=zM ps A.pred:=λ R hR A hA=>aS _ (List.mem_flatMap.2 ⟨R,hR,List.mem_cons_of_mem _ hA⟩)
 have Ri:∀ R∈rs,qJ ps R.head.pred<ps.length:=λ R hR=>vP (vd R hR)
 have NB:∀ R∈rs,∀ A∈R.body,qJ ps A.pred<ps.length:=λ R hR A hA=>vP (dh R hR A hA)
 refine⟨λ p=>(List.range ps.length).countP (z9w ps rs p),λ R hR A hA=>?_,λ i=>by have:=List.countP_le_length (p:=z9w ps rs i) (l:=List.range ps.length);simpa using this⟩;have Lq:=RP (ps:=ps) hR hA;have himp:∀ x∈List.range ps.length,z9w ps rs (qJ ps A.pred) x=true->z9w ps rs (qJ ps R.head.pred) x=true:=by
  intro x _ hx;unfold z9w at hx ⊢;simp only[List.any_eq_true,Bool.and_eq_true,Bool.or_eq_true,beq_iff_eq] at hx ⊢;obtain⟨R',pB,A',JZ,hn,h1,h2⟩:=hx;refine⟨R',pB,A',JZ,hn,.inr ?_,h2⟩;rcases h1 with h1 | h1
  ·rw[<-h1];exact Lq
  ·exact zhb (Ri R hR) (NB R hR A hA) (Ri R' pB) Lq h1
 unfold ziv
 cases QD:A.no with
 | false=>
  simp only[Bool.false_eq_true,if_false,Nat.add_zero];exact List.countP_mono_left himp
 | true=>
  simp only[if_true];refine z1u _ himp (y:=qJ ps A.pred) (List.mem_range.2 (NB R hR A hA)) ?_ ?_
  ·unfold z9w;simp only[List.any_eq_true,Bool.and_eq_true,Bool.or_eq_true,beq_iff_eq];exact⟨R,hR,A,hA,QD,.inl rfl,.inl rfl⟩
  ·cases hq:z9w ps rs (qJ ps A.pred) (qJ ps A.pred) with
   | false=>rfl
   | true=>
    exfalso
    unfold z9w at hq;simp only[List.any_eq_true,Bool.and_eq_true,Bool.or_eq_true,beq_iff_eq] at hq;obtain⟨R',pB,A',JZ,hn,h1,h2⟩:=hq;have hc:=aX R' pB A' JZ;unfold zo9 at hc;rw[hn,Bool.true_and,Bool.or_eq_false_iff] at hc;obtain⟨va,nS⟩:=hc;have lq:=NB R hR A hA;have la:=Ri R' pB;have lb:=NB R' pB A' JZ;have key:qJ ps A'.pred=qJ ps R'.head.pred\/vI ps rs (qJ ps A'.pred) (qJ ps R'.head.pred)=true:=by
     rcases h2 with h2 | h2 <;> rcases h1 with h1 | h1
     ·exact .inl (h2.trans h1)
     ·exact .inr (by rw[h2];exact h1)
     ·exact .inr (by rw[<-h1];exact h2)
     ·exact .inr (zhb lb lq la h2 h1)
    rcases key with key | key
    ·have p1:=dh R' pB A' JZ;have p2:=vd R' pB;unfold qJ at key;have:zM ps A'.pred=zM ps R'.head.pred:=by omega
     rw[this] at va;simp at va
    ·rw[key] at nS;cases nS
end
section
variable {ms:List xU} {rs:List zS} {n:Nat}
theorem z5e (h:qD n rs ms):∃ Q:List (zL × xU),Q.map (·.1)=rs.flatMap zS.atoms/\Q.map (·.2)=ms/\∀ x∈Q,∃ i,zji i x.1 x.2:=by
 induction h with
 | nil n=>exact⟨[],rfl,rfl,by simp⟩
 | cons h t ih=>
  obtain⟨q,q1,q2,q3⟩:=h;obtain⟨Q,Q1,Q2,Q3⟩:=ih;refine⟨q++Q,by simp[q1,Q1],by simp[q2,Q2],λ x hx=>?_⟩;rcases List.mem_append.1 hx with hx | hx
  ·exact⟨_,q3 x hx⟩
  ·exact Q3 x hx
theorem zse:∀ (Q:List (zL × xU)) (ps:P9),(∀ x∈Q,∃ i,zji i x.1 x.2)->zcw (Q.map (·.2)) ps=(yN (Q.map (·.1)) ps).1
 | [],ps,_=>rfl
 | x::r,ps,h=>by
  obtain⟨i,hx⟩:=h x List.mem_cons_self;have ih:=λ ps'=>zse r ps' (λ y hy=>h y (List.mem_cons_of_mem _ hy))
  have e1:x.2.ts.length=x.1.ae.length:=by rw[hx.ts];simp
  simp only[List.map_cons,zcw,yN];rw[hx.pd,e1,ih,hx.place]
  split <;> rfl
def jF {α:Type}(F:α->Int):List α->Int
 | []=>-1
 | x::r=>if 0<=F x then F x else jF F r
theorem zjt {α:Type}(F:α->Int)(b:List α):∀ (a:List α),jF F (a++b)=if 0<=jF F a then jF F a else jF F b
 | []=>by simp[jF]
 | x::r=>by
  rw[List.cons_append,jF,jF,zjt F b r]
  by_cases h:0<=F x
  ·simp[h]
  ·simp[h]
theorem zou (h:qD n rs ms)(F:xU->Int)(G:zS->Int):(∀ i R ms',rs[i]?=some R->oz (n+i) R.atoms ms'->jF F ms'=G R)->jF F ms=jF G rs:=by
 induction h with
 | nil n=>intro _;rfl
 | @cons n R rs ms ms' h t ih=>
  intro hG;have h1:=hG 0 R ms rfl h
  have h2:=ih (λ i R' ms'' hi hm=>hG (i+1) R' ms'' (by simpa using hi) (by
   have e:n+(i+1)=n+1+i:=by omega
   rw[e];exact hm))
  rw[zjt,h1,h2,jF]
theorem zr3 {i:Nat}{l:List zL}(h:oz i l ms)(F:xU->Int)(G:zL->Int)(hG:∀ A∈l,∀ M,zji i A M->F M=G A):jF F ms=jF G l:=by
 obtain⟨q,rfl,rfl,q3⟩:=h
 induction q with
 | nil=>rfl
 | cons x r ih=>
  have h1:=hG x.1 (by simp) x.2 (q3 x List.mem_cons_self);have h2:=ih (λ A hA M hM=>hG A (List.mem_cons_of_mem _ hA) M hM) (λ y hy=>q3 y (List.mem_cons_of_mem _ hy));simp only[List.map_cons,jF,h1,h2]
theorem yde (v:B8)(l:List xD):znc v (l.map ed)=l.any (Co v):=by
 unfold znc;rw[List.any_map];rfl
theorem z6q (v:B8)(body:List zL):zjk v (body.map lP)=zbf v body:=by
 unfold zjk zbf
 induction body with
 | nil=>rfl
 | cons A r ih=>
  rw[List.map_cons,List.filter_cons,List.any_cons,<-ih]
  cases hn:A.no with
  | true=>simp[lP,hn,zzm]
  | false=>simp[lP,hn,zzm,yde]
theorem zwh (body:List zL)(pl:Nat->Nat):∀ (l:List xD) (k:Nat),(∀ i (h:i<l.length),pl (k+i)=(l[i]).at_)->(match vL (body.map lP) (l.map ed) k with | some i=>(pl i:Int) | none=>-1)=xC body l
 | [],k,_=>rfl
 | t::r,k,h=>by
  have ih:=zwh body pl r (k+1) (λ i hi=>by
   have:=h (i+1) (by simpa using hi)
   rw[show k+1+i=k+(i+1) by omega,this];simp)
  simp only[List.map_cons,vL,xC];rw[show (ed t).1=t.isVar from rfl,show (ed t).2=t.text from rfl,z6q]
  by_cases hc:(t.isVar&&!zbf t.text body)=true
  ·rw[if_pos hc,if_pos hc];have:=h 0 (by simp);simp only[Nat.add_zero,List.getElem_cons_zero] at this;simp only[this]
  ·rw[if_neg hc,if_neg hc];exact ih
theorem z3d {body:List zL}{A:zL}(hA:A∈body)(hn:A.no=false):xC body A.ae=-1:=by
 have key:∀ l:List xD,(∀ t∈l,t∈A.ae)->xC body l=-1:=by
  intro l
  induction l with
  | nil=>intro _;rfl
  | cons t r ih=>
   intro h;rw[xC,if_neg,ih (λ u hu=>h u (List.mem_cons_of_mem _ hu))]
   cases hv:t.isVar with
   | false=>simp
   | true=>
    have hs:zbf t.text body=true:=by
     unfold zbf;rw[List.any_eq_true];refine⟨A,hA,?_⟩;unfold zzm;rw[hn];simp only[Bool.not_false,Bool.true_and];rw[List.any_eq_true];exact⟨t,h t List.mem_cons_self,by simp[Co,hv]⟩
    simp[hs]
 exact key A.ae (λ t h=>h)
theorem zfj (body:List zL):∀ l:List zL,(∀ A∈l,A∈body)->xE body l=jF (λ A=>xC body A.ae) l
 | [],_=>rfl
 | A::r,h=>by
  rw[xE,jF,<-zfj body r (λ B hB=>h B (List.mem_cons_of_mem _ hB))]
  cases hn:A.no with
  | true=>simp
  | false=>
   rw[z3d (h A List.mem_cons_self) hn];simp
theorem zj0:∀ rs:List zS,yT rs=jF qN rs
 | []=>rfl
 | R::r=>by rw[yT,jF,zj0 r]
def yd7 (rs:List vY)(M:xU):Int:=match vL (zjl rs M.num) M.ts 0 with | some i=>(M.pl i:Int) | none=>-1
theorem zin (rs:List vY):∀ ms:List xU,jR rs ms=jF (yd7 rs) ms
 | []=>rfl
 | M::r=>by
  rw[jR,jF,<-zin rs r];unfold yd7
  cases vL (zjl rs M.num) M.ts 0 with
  | none=>simp
  | some i=>simp
theorem zzz (h:qD 0 rs ms):jR (rs.map yO) ms=yT rs:=by
 rw[zin,zj0];refine zou h _ _ (λ i R ms' hi hm=>?_);rw[Nat.zero_add] at hm;have hb:zjl (rs.map yO) i=R.body.map lP:=by
  unfold zjl;rw[List.getElem?_map,hi];rfl
 rw[zr3 hm (yd7 (rs.map yO)) (λ A=>xC R.body A.ae) (λ A _ M hM=>?_)]
 ·unfold zS.atoms qN;rw[jF,zfj R.body R.body (λ A hA=>hA)]
 ·unfold yd7;rw[hM.num,hb,hM.ts];exact zwh R.body M.pl A.ae 0 (λ i hi=>by rw[Nat.zero_add];exact hM.pl i hi)
theorem z2v (nm:B8):∀ (l:P9) (k:Nat),0<=xR nm l k->(l.getD (xR nm l k-k).toNat (nm,0)).1=nm
 | [],k,h=>by simp[xR] at h
 | x::r,k,h=>by
  unfold xR at h ⊢
  by_cases hx:(x.1.toList==nm.toList)=true
  ·rw[if_pos hx];simp;exact xO.1 hx
  ·rw[if_neg hx] at h ⊢;have ih:=z2v nm r (k+1) h;have:=(z2u nm r (k+1) h).1;have e:(xR nm r (k+1)-(k:Int)).toNat=(xR nm r (k+1)-((k+1:Nat):Int)).toNat+1:=(by omega);rw[e];simpa using ih
def ycu (ps:P9)(i:Nat):B8:=(ps.getD i ({ data:=#[] },0)).1
variable {ps:P9}
theorem zps {x:B8}(h:0<=zM ps x):ycu ps (qJ ps x)=x:=by
 have h1:=z2v x ps 0 h;have aH:=vP h;unfold ycu qJ;rw[show xR x ps 0=zM ps x from rfl] at h1;simp only[Int.natCast_zero,Int.sub_zero] at h1;rw[List.getD_eq_getElem?_getD,List.getElem?_eq_getElem aH] at h1 ⊢;simpa using h1
variable {a b:B8}
theorem ybb (ha:0<=zM ps a)(hb:0<=zM ps b):(zM ps a==zM ps b)=(a.toList==b.toList):=by
 rw[Bool.eq_iff_iff]
 constructor
 ·intro h;have h1:zM ps a=zM ps b:=by simpa using h
  have h2:=zps ha;rw[show qJ ps a=qJ ps b by unfold qJ;rw[h1],zps hb] at h2;rw[h2];simp
 ·intro h;rw[xO.1 h];simp
theorem zl6 {x y:B8}:(x,y)∈jA (rs.map yO)↔∃ R∈rs,∃ A∈R.body,x=R.head.pred/\y=A.pred:=by
 unfold jA zgq
 constructor
 ·intro h;obtain⟨P,hP,h⟩:=List.mem_flatMap.1 h;obtain⟨R,hR,rfl⟩:=List.mem_map.1 hP;obtain⟨L,hL,h⟩:=List.mem_map.1 h;obtain⟨A,hA,rfl⟩:=List.mem_map.1 hL;injection h with h1 h2
  exact⟨R,hR,A,hA,h1.symm,h2.symm⟩
 ·rintro⟨R,hR,A,hA,rfl,rfl⟩;exact List.mem_flatMap.2 ⟨yO R,List.mem_map_of_mem hR,List.mem_map.2 ⟨lP A,List.mem_map_of_mem hA,rfl⟩⟩
theorem zjr {ps:P9}{h:Nat}:∀ (l:List zL) {M:Nat->Nat->Bool} {a b:Nat},zgr ps h l M a b=true->M a b=true\/(a=h/\∃ A∈l,b=qJ ps A.pred)
 | [],M,a,b,hm=>.inl hm
 | A::r,M,a,b,hm=>by
  rcases zjr r hm with h1 | ⟨h1,B,hB,h2⟩
  ·unfold upd at h1;simp at h1;rcases h1 with⟨h1,h2⟩ | h1
   ·exact .inr ⟨h1,A,List.mem_cons_self,h2⟩
   ·exact .inl h1
  ·exact .inr ⟨h1,B,List.mem_cons_of_mem _ hB,h2⟩
theorem zk8 {ps:P9}:∀ (l:List zS) {M:Nat->Nat->Bool} {a b:Nat},zh4 ps l M a b=true->M a b=true\/∃ R∈l,a=qJ ps R.head.pred/\∃ A∈R.body,b=qJ ps A.pred
 | [],M,a,b,hm=>.inl hm
 | R::r,M,a,b,hm=>by
  rcases zk8 r hm with h1 | ⟨R',hR,h1⟩
  ·rcases zjr R.body h1 with h2 | ⟨h2,A,hA,h3⟩
   ·exact .inl h2
   ·exact .inr ⟨R,List.mem_cons_self,h2,A,hA,h3⟩
  ·exact .inr ⟨R',List.mem_cons_of_mem _ hR,h1⟩
theorem z2h (P:Nat->Nat->Prop)(hP:∀ a b c,P a b->P b c->P a c)(n:Nat):∀ (d m:Nat) (M:Nat->Nat->Bool),n-m=d->(∀ a b,M a b=true->P a b)->∀ a b,fwM n M m a b=true->P a b:=by
 intro d
 induction d with
 | zero=>
  intro m M hd hM a b h;rw[zt8 (by omega)] at h;exact hM a b h
 | succ d ih=>
  intro m M hd hM a b h;rw[z2g (by omega)] at h;refine ih (m+1) _ (by omega) (λ x y EL=>?_) a b h;rw[z9r n m (n-0) 0 M rfl] at EL;simp at EL;rcases EL with h1 | h1
  ·exact hM x y h1
  ·exact hP x m y (hM x m h1.1.2) (hM m y h1.2)
theorem zu0 {E:List zhv}{c:B8}(h:ze8 E a b)(t:ze8 E b c):ze8 E a c:=by
 induction t with
 | one h1=>exact .next h h1
 | next _ h1 ih=>exact .next ih h1
theorem z66 (aS:zgi ps (rs.flatMap zS.atoms))(ha:0<=zM ps a)(hb:0<=zM ps b):zgt (jA (rs.map yO)) a b=vI ps rs (qJ ps a) (qJ ps b):=by
 have KK:∀ R∈rs,0<=zM ps R.head.pred:=λ R hR=>aS _ (List.mem_flatMap.2 ⟨R,hR,List.mem_cons_self⟩)
 have iG:∀ R∈rs,∀ A∈R.body,0<=zM ps A.pred:=λ R hR A hA=>aS _ (List.mem_flatMap.2 ⟨R,hR,List.mem_cons_of_mem _ hA⟩)
 rw[Bool.eq_iff_iff];unfold zgt;simp only[decide_eq_true_eq]
 constructor
 ·intro h;have key:∀ y,ze8 (jA (rs.map yO)) a y->vI ps rs (qJ ps a) (qJ ps y)=true/\0<=zM ps y:=by
   intro y hy
   induction hy with
   | one h1=>
    obtain⟨R,hR,A,hA,rfl,rfl⟩:=zl6.1 h1;exact⟨RP hR hA,iG R hR A hA⟩
   | next t h1 ih=>
    obtain⟨R,hR,A,hA,rfl,rfl⟩:=zl6.1 h1;exact⟨zhb (vP ha) (vP ih.2) (vP (iG R hR A hA)) ih.1 (RP hR hA),iG R hR A hA⟩
  exact (key b h).1
 ·intro h;have:=z2h (λ i j=>ze8 (jA (rs.map yO)) (ycu ps i) (ycu ps j)) (λ _ _ _=>zu0) ps.length ps.length 0 (zh4 ps rs (λ _ _=>false)) rfl (λ i j hij=>?_) _ _ h
  ·rw[zps ha,zps hb] at this;exact this
  ·rcases zk8 rs hij with h1 | ⟨R,hR,rfl,A,hA,rfl⟩
   ·cases h1
   ·simp only[zps (KK R hR),zps (iG R hR A hA)];exact .one (zl6.2 ⟨R,hR,A,hA,rfl,rfl⟩)
theorem zh3 (ps:P9)(H:Nat->Nat->Bool)(hd:B8):∀ l:List zL,j5 ps H hd l=jF (λ A=>if zo9 ps H hd A then (A.az:Int) else -1) l
 | []=>rfl
 | A::r=>by
  rw[j5,jF,<-zh3 ps H hd r]
  by_cases h:zo9 ps H hd A=true
  ·simp[h]
  ·simp[h]
theorem zjp (ps:P9)(H:Nat->Nat->Bool):∀ rs:List zS,vN ps H rs=jF (λ R=>j5 ps H R.head.pred R.body) rs
 | []=>rfl
 | R::r=>by rw[vN,jF,zjp ps H r]
theorem zjq (rs:List vY):∀ ms:List xU,zae rs ms=jF (λ M=>if z9m rs M then (M.start:Int) else -1) ms
 | []=>rfl
 | M::r=>by
  rw[zae,jF,<-zjq rs r]
  by_cases h:z9m rs M=true
  ·simp[h]
  ·simp[h]
theorem z6x (h:qD 0 rs ms)(aS:zgi ps (rs.flatMap zS.atoms))(aX:∀ R∈rs,R.head.no=false):zae (rs.map yO) ms=vN ps (vI ps rs) rs:=by
 rw[zjq,zjp];refine zou h _ _ (λ i R ms' hi hm=>?_);rw[Nat.zero_add] at hm;have hR:R∈rs:=List.mem_of_getElem? hi;have hh:zn3 (rs.map yO) i=R.head.pred:=by
  unfold zn3;rw[List.getElem?_map,hi];rfl
 have hp:=aS R.head (List.mem_flatMap.2 ⟨R,hR,List.mem_cons_self⟩);rw[zr3 hm _ (λ A=>if zo9 ps (vI ps rs) R.head.pred A then (A.az:Int) else -1) (λ A hA M hM=>?_)]
 ·unfold zS.atoms;rw[jF,zh3];have:zo9 ps (vI ps rs) R.head.pred R.head=false:=by unfold zo9;rw[aX R hR];rfl
  simp[this]
 ·have Lj:=aS A (List.mem_flatMap.2 ⟨R,hR,hA⟩);have e:z9m (rs.map yO) M=zo9 ps (vI ps rs) R.head.pred A:=by
   unfold z9m zo9;rw[hM.num,hh,hM.neg,hM.pd,z66 aS Lj hp,ybb Lj hp]
  simp only[e]
  by_cases hc:zo9 ps (vI ps rs) R.head.pred A=true
  ·rw[if_pos hc,if_pos hc];have:A.no=true:=by unfold zo9 at hc;simp at hc;exact hc.1
   rw[hM.start this]
  ·rw[if_neg hc,if_neg hc]
theorem zzi {s:B8}(f:Nat):∀ {p:Nat} {bd:Int} {l:List zS},(∀ R∈l,R.head.no=false)->∀ R∈(zbz s f p bd l).1,R.head.no=false:=by
 induction f with
 | zero=>intro p bd l h;exact h
 | succ f ih=>
  intro p bd l h;rw[zbz]
  split
  ·refine ih (λ R hR=>?_);rcases List.mem_append.1 hR with hR | hR
   ·exact h R hR
   ·simp at hR;subst hR;rfl
  ·exact h
theorem ybf (s:B8):z4e s=yY s:=by
 unfold z4e yY
 by_cases c0:800<s.size
 ·rw[if_pos c0,if_pos c0]
 ·rw[if_neg c0,if_neg c0]
  cases c1:(yL s).1 with
  | false=>
   have h:=(zig s).2 c1;rw[if_pos rfl,h,if_pos (by omega)]
  | true=>
   obtain⟨h1,h2,h3⟩:=(zig s).1 c1;rw[if_neg (show ¬ (true=false) by decide),h1,if_neg (show ¬ ((0:Int)<=-1) by decide),h2];obtain⟨Q,Q1,Q2,Q3⟩:=z5e h3;have ea:zcw (yL s).2.2.2 []=(zT s).1:=by
    unfold zT;rw[<-Q1,<-Q2];exact zse Q [] Q3
   have eu:=zzz h3;unfold zfd;rw[ea,eu]
   by_cases c2:0<=(zT s).1
   ·simp[c2]
   ·have aS:zgi (zT s).2 ((yG s).1.flatMap zS.atoms):=zeh _ c2;have ec:=z6x h3 aS (zzi 31 (by simp));rw[ec];rw[if_neg c2,if_neg c2]
    by_cases c3:0<=yT (yG s).1
    ·simp[c3]
    ·rw[if_neg c3,if_neg c3]
     by_cases c4:0<=vN (zT s).2 (vI (zT s).2 (yG s).1) (yG s).1
     ·simp[c4]
     ·simp[c4]
end
end Go.Proofs.YtldkpahaocjdpaaGreat
