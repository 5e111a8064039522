/-
  Plain: where no predicate has two numbers of terms all are there; where nothing hangs on its own not being so, some numbers keep to the rules.
-/
import Derived.Test.YtldkpahaocjdpaaGreatC22
set_option maxHeartbeats 16000000
set_option maxRecDepth 1000000
namespace Go.Proofs.YtldkpahaocjdpaaGreat
section
theorem z31 (l:List zL):∀ ps,(yV l ps).2.length<=ps.length+l.length:=by
 induction l with
 | nil=>intro ps;simp[yV]
 | cons A r ih=>
  intro ps;have h:=znm ps A.pred A.ae.length;rw[yV]
  split
  ·have:=ih (qG ps A.pred A.ae.length);simp only[List.length_cons];omega
  ·simp only[List.length_cons];omega
theorem zpi (nm:B8)(m:P9):∀ (l:P9) (k:Nat),0<=xV nm l k->xV nm (l++m) k=xV nm l k
 | [],k,h=>by simp[xV] at h
 | x::r,k,h=>by
  rw[List.cons_append];unfold xV at h ⊢
  split
  ·rfl
  ·rename_i eI;rw[if_neg eI] at h;exact zpi nm m r (k+1) h
theorem zzl (nm:B8)(n:Nat):∀ (l:P9) (k:Nat),0<=xV nm (l++[(nm,n)]) k
 | [],k=>by simp[xV]
 | x::r,k=>by
  rw[List.cons_append];unfold xV
  split
  ·omega
  ·exact zzl nm n r (k+1)
theorem z30 (ps:P9)(nm:B8)(n:Nat):0<=zM (qG ps nm n) nm:=by
 unfold qG;split
 ·exact zzl nm n ps 0
 ·omega
theorem zr0 (ps:P9)(nm:B8)(n:Nat)(x:B8)(h:0<=zM ps x):0<=zM (qG ps nm n) x:=by
 unfold qG;split
 ·unfold zM at *;rw[zpi x _ ps 0 h];exact h
 ·exact h
theorem zv5 (l:List zL):∀ ps,(yV l ps).1<0->(∀ A∈l,0<=zM (yV l ps).2 A.pred)/\(∀ nm,0<=zM ps nm->0<=zM (yV l ps).2 nm):=by
 induction l with
 | nil=>intro ps _;exact⟨by simp,λ nm h=>h⟩
 | cons A r ih=>
  intro ps h;rw[yV] at h ⊢
  split
  ·rename_i hb;rw[if_pos hb] at h;obtain⟨h1,h2⟩:=ih _ h;refine⟨λ B hB=>?_,λ nm hn=>h2 nm (zr0 ps A.pred A.ae.length nm hn)⟩;rcases List.mem_cons.1 hB with rfl | hB
   ·exact h2 _ (z30 ps B.pred B.ae.length)
   ·exact h1 B hB
  ·rename_i hb;rw[if_neg hb] at h;simp at h;omega
theorem zdh (l:List zL)(h:¬ 0<=(yV l []).1):zd2 (yV l []).2 l:=(zv5 l [] (by omega)).1
theorem z9a (n m i:Nat):∀ (d k:Nat) (M:Nat->Nat->Bool),n-k=d->∀ a b,fwK n m i M k a b=(M a b||(decide (a=i)&&decide (k<=b)&&decide (b<n)&&M i m&&M m b)):=by
 intro d
 induction d with
 | zero=>
  intro k M hd a b;rw[zy6 (by omega)];have:¬ (k<=b/\b<n):=by omega
  by_cases h1:k<=b <;> by_cases h2:b<n <;> simp[h1,h2] <;> omega
 | succ d ih=>
  intro k M hd a b;rw[z55 (by omega),ih (k+1) _ (by omega) a b];have hM:∀ a b,(if M i m&&M m k then upd M i k else M) a b=(M a b||(decide (a=i)&&decide (b=k)&&M i m&&M m k)):=by
   intro a b
   cases h1:M i m <;> cases h2:M m k <;> simp[upd,Bool.or_comm]
  rw[hM a b,hM i m,hM m b];have Lu:k<n:=by omega
  by_cases e1:a=i
  ·by_cases e2:b=k
   ·subst e2
    cases M a b <;> cases M i m <;> cases M m b <;> simp[e1,Lu]
   ·by_cases e3:k<=b
    ·have e4:k+1<=b:=by omega
     cases M a b <;> cases M i m <;> cases M m b <;> simp[e1,e2,e3,e4]
    ·have e4:¬ k+1<=b:=by omega
     cases M a b <;> simp[e2,e3,e4]
  ·cases M a b <;> simp[e1]
theorem z53 (n m:Nat):∀ (d i:Nat) (M:Nat->Nat->Bool),n-i=d->∀ a b,fwI n m M i a b=(M a b||(decide (i<=a)&&decide (a<n)&&decide (b<n)&&M a m&&M m b)):=by
 intro d
 induction d with
 | zero=>
  intro i M hd a b;rw[zy5 (by omega)]
  by_cases h1:i<=a <;> by_cases h2:a<n <;> simp[h1,h2] <;> omega
 | succ d ih=>
  intro i M hd a b;have hM:=z9a n m i _ 0 M rfl;rw[z54 (by omega),ih (i+1) _ (by omega) a b,hM a b,hM a m,hM m b];have ay:i<n:=by omega
  by_cases e1:a=i
  ·subst e1;have e4:¬ a+1<=a:=by omega
   cases M a b <;> cases M a m <;> cases M m b <;> simp[e4,ay]
  ·by_cases e3:i<=a
   ·have e4:i+1<=a:=by omega
    by_cases e5:m=i
    ·subst e5
     cases M a b <;> cases M a m <;> cases M m b <;> cases M m m <;> simp[e1,e3,e4]
    ·cases M a b <;> cases M a m <;> cases M m b <;> simp[e1,e3,e4,e5]
   ·have e4:¬ i+1<=a:=by omega
    cases M a b <;> simp[e1,e3,e4]
theorem zli (n:Nat):∀ (d m:Nat) (M:Nat->Nat->Bool),n-m=d->m<=n->(∀ i j k,i<n->k<n->j<m->M i j=true->M j k=true->M i k=true) ->
  (∀ i j k,i<n->k<n->j<n->fwM n M m i j=true->fwM n M m j k=true->fwM n M m i k=true)/\(∀ i k,M i k=true->fwM n M m i k=true):=by
 intro d
 induction d with
 | zero=>
  intro m M hd tL h;rw[zrp (by omega)];exact⟨λ i j k hi hk hj=>h i j k hi hk (by omega),λ i k h=>h⟩
 | succ d ih=>
  intro m M hd tL h;have hm:m<n:=by omega
  have hM:=z53 n m _ 0 M rfl;rw[zy7 hm];have fy:∀ i j k,i<n->k<n->j<m+1->fwI n m M 0 i j=true->fwI n m M 0 j k=true->fwI n m M 0 i k=true:=by
   intro i j k hi hk hj h1 h2;have Uc:j<n:=(by omega);rw[hM] at h1 h2 ⊢;simp only[Nat.zero_le,decide_true,Bool.true_and,hi,Uc,hk,Bool.or_eq_true,Bool.and_eq_true] at h1 h2 ⊢
   by_cases ej:j=m
   ·subst ej;have a1:M i j=true:=(by rcases h1 with h1 | h1;exact h1;exact h1.1);have a2:M j k=true:=(by rcases h2 with h2 | h2;exact h2;exact h2.2);exact .inr ⟨a1,a2⟩
   ·have Qk:j<m:=(by omega);rcases h1 with h1 | ⟨h1,II⟩ <;> rcases h2 with h2 | ⟨h2,Kl⟩
    ·exact .inl (h i j k hi hk Qk h1 h2)
    ·exact .inr ⟨h i j m hi hm Qk h1 h2,Kl⟩
    ·exact .inr ⟨h1,h m j k hm hk Qk II h2⟩
    ·exact .inr ⟨h1,Kl⟩
  obtain⟨g1,g2⟩:=ih (m+1) (fwI n m M 0) (by omega) (by omega) fy;exact⟨g1,λ i k Lp=>g2 i k (by rw[hM,Lp];rfl)⟩
variable {i j:Nat}
theorem z5n {M:Nat->Nat->Bool}{a b:Nat}(h:M a b=true):upd M i j a b=true:=by simp[upd,h]
variable {h:Nat} {ps:P9}
theorem zjz (l:List zL):∀ {M:Nat->Nat->Bool} {a b:Nat},M a b=true->zfg ps h l M a b=true:=by
 induction l with
 | nil=>intro M a b hM;exact hM
 | cons A r ih=>intro M a b hM;exact ih (z5n hM)
theorem zvh (l:List zP):∀ {M:Nat->Nat->Bool} {a b:Nat},M a b=true->zg0 ps l M a b=true:=by
 induction l with
 | nil=>intro M a b hM;exact hM
 | cons R r ih=>intro M a b hM;exact ih (zjz R.body hM)
theorem zvg (l:List zL):∀ {M:Nat->Nat->Bool} {A:zL},A∈l->zfg ps h l M h (vZ ps A.pred)=true:=by
 induction l with
 | nil=>intro M A hA;cases hA
 | cons B r ih=>
  intro M A hA;rcases List.mem_cons.1 hA with rfl | hA
  ·exact zjz r (by simp[upd])
  ·exact ih hA
theorem zyw (l:List zP):∀ {M:Nat->Nat->Bool} {R:zP} {A:zL},R∈l->A∈R.body->zg0 ps l M (vZ ps R.head.pred) (vZ ps A.pred)=true:=by
 induction l with
 | nil=>intro M R A hR;cases hR
 | cons B r ih=>
  intro M R A hR hA;rcases List.mem_cons.1 hR with rfl | hR
  ·exact zvh r (zvg R.body hA)
  ·exact ih hR hA
variable {rs:List zP}
theorem R9 {R:zP}{A:zL}(hR:R∈rs)(hA:A∈R.body):vF ps rs (vZ ps R.head.pred) (vZ ps A.pred)=true:=
 (zli ps.length _ 0 _ rfl (Nat.zero_le _) (by intro i j k _ _ hj;omega)).2 _ _ (zyw rs hR hA)
theorem zfz {k:Nat}(hi:i<ps.length)(hj:j<ps.length)(hk:k<ps.length)(h1:vF ps rs i j=true)(h2:vF ps rs j k=true):vF ps rs i k=true:=
 (zli ps.length _ 0 (zg0 ps rs (λ _ _=>false)) rfl (Nat.zero_le _) (by intro i j k _ _ hj;omega)).1 i j k hi hk hj h1 h2
variable {H:Nat->Nat->Bool}
theorem zvc {hd:B8}(l:List zL)(h:jS ps H hd l<0):∀ A∈l,zm7 ps H hd A=false:=by
 induction l with
 | nil=>simp
 | cons B r ih=>
  rw[jS] at h
  split at h
  ·omega
  ·rename_i hb;intro A hA;rcases List.mem_cons.1 hA with rfl | hA
   ·simpa using hb
   ·exact ih h A hA
theorem z3g (l:List zP)(h:vL ps H l<0):∀ R∈l,∀ A∈R.body,zm7 ps H R.head.pred A=false:=by
 induction l with
 | nil=>simp
 | cons B r ih=>
  rw[vL] at h
  split at h
  ·omega
  ·rename_i hb;intro R hR;rcases List.mem_cons.1 hR with rfl | hR
   ·exact zvc R.body (by omega)
   ·exact ih h R hR
theorem zyr {α:Type}{p r:α->Bool}(l:List α)(h:∀ x∈l,p x=true->r x=true){y:α}(hy:y∈l)(hr:r y=true)(hp:p y=false):l.countP p+1<=l.countP r:=by
 induction l with
 | nil=>cases hy
 | cons x t ih=>
  have hm:t.countP p<=t.countP r:=List.countP_mono_left (λ z hz=>h z (List.mem_cons_of_mem _ hz));rcases List.mem_cons.1 hy with rfl | hy
  ·rw[List.countP_cons_of_pos hr,List.countP_cons_of_neg (by rw[hp];decide)];omega
  ·have h1:=ih (λ z hz=>h z (List.mem_cons_of_mem _ hz)) hy
   cases e:p x with
   | true=>rw[List.countP_cons_of_pos e,List.countP_cons_of_pos (h x List.mem_cons_self e)];omega
   | false=>
    rw[List.countP_cons_of_neg (by rw[e];decide)];have:t.countP r<=(x::t).countP r:=by
     cases e2:r x with
     | true=>rw[List.countP_cons_of_pos e2];omega
     | false=>rw[List.countP_cons_of_neg (by rw[e2];decide)];omega
    omega
def z57 (ps:P9)(rs:List zP)(p x:Nat):Bool:=
 rs.any λ R=>R.body.any λ A=>A.no&&((p==vZ ps R.head.pred||vF ps rs p (vZ ps R.head.pred))&&(vZ ps A.pred==x||vF ps rs (vZ ps A.pred) x))
theorem zfm (ps:P9)(rs:List zP)(aL:zd2 ps (rs.flatMap zP.atoms))(h:¬ 0<=vL ps (vF ps rs) rs):∃ f,zdf ps rs f/\∀ i,f i<=ps.length:=by
 have aR:=z3g rs (show vL ps (vF ps rs) rs<0 by omega);have rE:∀ R∈rs,0<=zM ps R.head.pred:=λ R hR=>aL _ (List.mem_flatMap.2 ⟨R,hR,List.mem_cons_self⟩)
 have cX:∀ R∈rs,∀ A∈R.body,0<=zM ps A.pred:=λ R hR A hA=>aL _ (List.mem_flatMap.2 ⟨R,hR,List.mem_cons_of_mem _ hA⟩)
 have RI:∀ R∈rs,vZ ps R.head.pred<ps.length:=λ R hR=>xN (rE R hR)
 have NV:∀ R∈rs,∀ A∈R.body,vZ ps A.pred<ps.length:=λ R hR A hA=>xN (cX R hR A hA)
 refine⟨λ p=>(List.range ps.length).countP (z57 ps rs p),λ R hR A hA=>?_,λ i=>by have:=List.countP_le_length (p:=z57 ps rs i) (l:=List.range ps.length);simpa using this⟩;have LY:=R9 (ps:=ps) hR hA;have himp:∀ x∈List.range ps.length,z57 ps rs (vZ ps A.pred) x=true->z57 ps rs (vZ ps R.head.pred) x=true:=by
  intro x _ hx;unfold z57 at hx ⊢;simp only[List.any_eq_true,Bool.and_eq_true,Bool.or_eq_true,beq_iff_eq] at hx ⊢;obtain⟨R',sQ,A',Kp,hn,h1,h2⟩:=hx;refine⟨R',sQ,A',Kp,hn,.inr ?_,h2⟩;rcases h1 with h1 | h1
  ·rw[<-h1];exact LY
  ·exact zfz (RI R hR) (NV R hR A hA) (RI R' sQ) LY h1
 unfold zhp
 cases QS:A.no with
 | false=>
  simp only[Bool.false_eq_true,if_false,Nat.add_zero];exact List.countP_mono_left himp
 | true=>
  simp only[if_true];refine zyr _ himp (y:=vZ ps A.pred) (List.mem_range.2 (NV R hR A hA)) ?_ ?_
  ·unfold z57;simp only[List.any_eq_true,Bool.and_eq_true,Bool.or_eq_true,beq_iff_eq];exact⟨R,hR,A,hA,QS,.inl rfl,.inl rfl⟩
  ·cases hq:z57 ps rs (vZ ps A.pred) (vZ ps A.pred) with
   | false=>rfl
   | true=>
    exfalso
    unfold z57 at hq;simp only[List.any_eq_true,Bool.and_eq_true,Bool.or_eq_true,beq_iff_eq] at hq;obtain⟨R',sQ,A',Kp,hn,h1,h2⟩:=hq;have hc:=aR R' sQ A' Kp;unfold zm7 at hc;rw[hn,Bool.true_and,Bool.or_eq_false_iff] at hc;obtain⟨oO,nN⟩:=hc;have lq:=NV R hR A hA;have la:=RI R' sQ;have lb:=NV R' sQ A' Kp;have key:vZ ps A'.pred=vZ ps R'.head.pred\/vF ps rs (vZ ps A'.pred) (vZ ps R'.head.pred)=true:=by
     rcases h2 with h2 | h2 <;> rcases h1 with h1 | h1
     ·exact .inl (h2.trans h1)
     ·exact .inr (by rw[h2];exact h1)
     ·exact .inr (by rw[<-h1];exact h2)
     ·exact .inr (zfz lb lq la h2 h1)
    rcases key with key | key
    ·have p1:=cX R' sQ A' Kp;have p2:=rE R' sQ;unfold vZ at key;have:zM ps A'.pred=zM ps R'.head.pred:=by omega
     rw[this] at oO;simp at oO
    ·rw[key] at nN;cases nN
end
section
variable {ms:List xU} {rs:List zP} {n:Nat}
theorem z1z (h:jZ n rs ms):∃ Q:List (zL × xU),Q.map (·.1)=rs.flatMap zP.atoms/\Q.map (·.2)=ms/\∀ x∈Q,∃ i,zie i x.1 x.2:=by
 induction h with
 | nil n=>exact⟨[],rfl,rfl,by simp⟩
 | cons h t ih=>
  obtain⟨q,q1,q2,q3⟩:=h;obtain⟨Q,Q1,Q2,Q3⟩:=ih;refine⟨q++Q,by simp[q1,Q1],by simp[q2,Q2],λ x hx=>?_⟩;rcases List.mem_append.1 hx with hx | hx
  ·exact⟨_,q3 x hx⟩
  ·exact Q3 x hx
theorem zp2:∀ (Q:List (zL × xU)) (ps:P9),(∀ x∈Q,∃ i,zie i x.1 x.2)->zb7 (Q.map (·.2)) ps=(yV (Q.map (·.1)) ps).1
 | [],ps,_=>rfl
 | x::r,ps,h=>by
  obtain⟨i,hx⟩:=h x List.mem_cons_self;have ih:=λ ps'=>zp2 r ps' (λ y hy=>h y (List.mem_cons_of_mem _ hy))
  have e1:x.2.ts.length=x.1.ae.length:=by rw[hx.ts];simp
  simp only[List.map_cons,zb7,yV];rw[hx.pd,e1,ih,hx.place]
  split <;> rfl
def jD {α:Type}(F:α->Int):List α->Int
 | []=>-1
 | x::r=>if 0<=F x then F x else jD F r
theorem zin {α:Type}(F:α->Int)(b:List α):∀ (a:List α),jD F (a++b)=if 0<=jD F a then jD F a else jD F b
 | []=>by simp[jD]
 | x::r=>by
  rw[List.cons_append,jD,jD,zin F b r]
  by_cases h:0<=F x
  ·simp[h]
  ·simp[h]
theorem zmc (h:jZ n rs ms)(F:xU->Int)(G:zP->Int):(∀ i R ms',rs[i]?=some R->rW (n+i) R.atoms ms'->jD F ms'=G R)->jD F ms=jD G rs:=by
 induction h with
 | nil n=>intro _;rfl
 | @cons n R rs ms ms' h t ih=>
  intro hG;have h1:=hG 0 R ms rfl h
  have h2:=ih (λ i R' ms'' hi hm=>hG (i+1) R' ms'' (by simpa using hi) (by
   have e:n+(i+1)=n+1+i:=by omega
   rw[e];exact hm))
  rw[zin,h1,h2,jD]
theorem zpv {i:Nat}{l:List zL}(h:rW i l ms)(F:xU->Int)(G:zL->Int)(hG:∀ A∈l,∀ M,zie i A M->F M=G A):jD F ms=jD G l:=by
 obtain⟨q,rfl,rfl,q3⟩:=h
 induction q with
 | nil=>rfl
 | cons x r ih=>
  have h1:=hG x.1 (by simp) x.2 (q3 x List.mem_cons_self);have h2:=ih (λ A hA M hM=>hG A (List.mem_cons_of_mem _ hA) M hM) (λ y hy=>q3 y (List.mem_cons_of_mem _ hy));simp only[List.map_cons,jD,h1,h2]
theorem z9b (v:B8)(l:List xK):zk4 v (l.map gZ)=l.any (Dq v):=by
 unfold zk4;rw[List.any_map];rfl
theorem z3a (v:B8)(body:List zL):zig v (body.map nI)=zax v body:=by
 unfold zig zax
 induction body with
 | nil=>rfl
 | cons A r ih=>
  rw[List.map_cons,List.filter_cons,List.any_cons,<-ih]
  cases hn:A.no with
  | true=>simp[nI,hn,zwu]
  | false=>simp[nI,hn,zwu,z9b]
theorem zts (body:List zL)(pl:Nat->Nat):∀ (l:List xK) (k:Nat),(∀ i (h:i<l.length),pl (k+i)=(l[i]).at_)->(match vH (body.map nI) (l.map gZ) k with | some i=>(pl i:Int) | none=>-1)=xJ body l
 | [],k,_=>rfl
 | t::r,k,h=>by
  have ih:=zts body pl r (k+1) (λ i hi=>by
   have:=h (i+1) (by simpa using hi)
   rw[show k+1+i=k+(i+1) by omega,this];simp)
  simp only[List.map_cons,vH,xJ];rw[show (gZ t).1=t.isVar from rfl,show (gZ t).2=t.text from rfl,z3a]
  by_cases hc:(t.isVar&&!zax t.text body)=true
  ·rw[if_pos hc,if_pos hc];have:=h 0 (by simp);simp only[Nat.add_zero,List.getElem_cons_zero] at this;simp only[this]
  ·rw[if_neg hc,if_neg hc];exact ih
theorem zz2 {body:List zL}{A:zL}(hA:A∈body)(hn:A.no=false):xJ body A.ae=-1:=by
 have key:∀ l:List xK,(∀ t∈l,t∈A.ae)->xJ body l=-1:=by
  intro l
  induction l with
  | nil=>intro _;rfl
  | cons t r ih=>
   intro h;rw[xJ,if_neg,ih (λ u hu=>h u (List.mem_cons_of_mem _ hu))]
   cases hv:t.isVar with
   | false=>simp
   | true=>
    have hs:zax t.text body=true:=by
     unfold zax;rw[List.any_eq_true];refine⟨A,hA,?_⟩;unfold zwu;rw[hn];simp only[Bool.not_false,Bool.true_and];rw[List.any_eq_true];exact⟨t,h t List.mem_cons_self,by simp[Dq,hv]⟩
    simp[hs]
 exact key A.ae (λ t h=>h)
theorem zeg (body:List zL):∀ l:List zL,(∀ A∈l,A∈body)->xL body l=jD (λ A=>xJ body A.ae) l
 | [],_=>rfl
 | A::r,h=>by
  rw[xL,jD,<-zeg body r (λ B hB=>h B (List.mem_cons_of_mem _ hB))]
  cases hn:A.no with
  | true=>simp
  | false=>
   rw[zz2 (h A List.mem_cons_self) hn];simp
theorem zir:∀ rs:List zP,xB rs=jD qD rs
 | []=>rfl
 | R::r=>by rw[xB,jD,zir r]
def z99 (rs:List vX)(M:xU):Int:=match vH (zih rs M.num) M.ts 0 with | some i=>(M.pl i:Int) | none=>-1
theorem zhj (rs:List vX):∀ ms:List xU,jM rs ms=jD (z99 rs) ms
 | []=>rfl
 | M::r=>by
  rw[jM,jD,<-zhj rs r];unfold z99
  cases vH (zih rs M.num) M.ts 0 with
  | none=>simp
  | some i=>simp
theorem zw9 (h:jZ 0 rs ms):jM (rs.map yT) ms=xB rs:=by
 rw[zhj,zir];refine zmc h _ _ (λ i R ms' hi hm=>?_);rw[Nat.zero_add] at hm;have hb:zih (rs.map yT) i=R.body.map nI:=by
  unfold zih;rw[List.getElem?_map,hi];rfl
 rw[zpv hm (z99 (rs.map yT)) (λ A=>xJ R.body A.ae) (λ A _ M hM=>?_)]
 ·unfold zP.atoms qD;rw[jD,zeg R.body R.body (λ A hA=>hA)]
 ·unfold z99;rw[hM.num,hb,hM.ts];exact zts R.body M.pl A.ae 0 (λ i hi=>by rw[Nat.zero_add];exact hM.pl i hi)
theorem zzn (nm:B8):∀ (l:P9) (k:Nat),0<=xV nm l k->(l.getD (xV nm l k-k).toNat (nm,0)).1=nm
 | [],k,h=>by simp[xV] at h
 | x::r,k,h=>by
  unfold xV at h ⊢
  by_cases hx:(x.1.toList==nm.toList)=true
  ·rw[if_pos hx];simp;exact vO.1 hx
  ·rw[if_neg hx] at h ⊢;have ih:=zzn nm r (k+1) h;have:=(zzm nm r (k+1) h).1;have e:(xV nm r (k+1)-(k:Int)).toNat=(xV nm r (k+1)-((k+1:Nat):Int)).toNat+1:=(by omega);rw[e];simpa using ih
def z7q (ps:P9)(i:Nat):B8:=(ps.getD i ({ data:=#[] },0)).1
variable {ps:P9}
theorem zns {x:B8}(h:0<=zM ps x):z7q ps (vZ ps x)=x:=by
 have h1:=zzn x ps 0 h;have aG:=xN h;unfold z7q vZ;rw[show xV x ps 0=zM ps x from rfl] at h1;simp only[Int.natCast_zero,Int.sub_zero] at h1;rw[List.getD_eq_getElem?_getD,List.getElem?_eq_getElem aG] at h1 ⊢;simpa using h1
variable {a b:B8}
theorem z7i (ha:0<=zM ps a)(hb:0<=zM ps b):(zM ps a==zM ps b)=(a.toList==b.toList):=by
 rw[Bool.eq_iff_iff]
 constructor
 ·intro h;have h1:zM ps a=zM ps b:=by simpa using h
  have h2:=zns ha;rw[show vZ ps a=vZ ps b by unfold vZ;rw[h1],zns hb] at h2;rw[h2];simp
 ·intro h;rw[vO.1 h];simp
theorem zj9 {x y:B8}:(x,y)∈vY (rs.map yT)↔∃ R∈rs,∃ A∈R.body,x=R.head.pred/\y=A.pred:=by
 unfold vY zff
 constructor
 ·intro h;obtain⟨P,hP,h⟩:=List.mem_flatMap.1 h;obtain⟨R,hR,rfl⟩:=List.mem_map.1 hP;obtain⟨L,hL,h⟩:=List.mem_map.1 h;obtain⟨A,hA,rfl⟩:=List.mem_map.1 hL;injection h with h1 h2
  exact⟨R,hR,A,hA,h1.symm,h2.symm⟩
 ·rintro⟨R,hR,A,hA,rfl,rfl⟩;exact List.mem_flatMap.2 ⟨yT R,List.mem_map_of_mem hR,List.mem_map.2 ⟨nI A,List.mem_map_of_mem hA,rfl⟩⟩
theorem zil {ps:P9}{h:Nat}:∀ (l:List zL) {M:Nat->Nat->Bool} {a b:Nat},zfg ps h l M a b=true->M a b=true\/(a=h/\∃ A∈l,b=vZ ps A.pred)
 | [],M,a,b,hm=>.inl hm
 | A::r,M,a,b,hm=>by
  rcases zil r hm with h1 | ⟨h1,B,hB,h2⟩
  ·unfold upd at h1;simp at h1;rcases h1 with⟨h1,h2⟩ | h1
   ·exact .inr ⟨h1,A,List.mem_cons_self,h2⟩
   ·exact .inl h1
  ·exact .inr ⟨h1,B,List.mem_cons_of_mem _ hB,h2⟩
theorem zj0 {ps:P9}:∀ (l:List zP) {M:Nat->Nat->Bool} {a b:Nat},zg0 ps l M a b=true->M a b=true\/∃ R∈l,a=vZ ps R.head.pred/\∃ A∈R.body,b=vZ ps A.pred
 | [],M,a,b,hm=>.inl hm
 | R::r,M,a,b,hm=>by
  rcases zj0 r hm with h1 | ⟨R',hR,h1⟩
  ·rcases zil R.body h1 with h2 | ⟨h2,A,hA,h3⟩
   ·exact .inl h2
   ·exact .inr ⟨R,List.mem_cons_self,h2,A,hA,h3⟩
  ·exact .inr ⟨R',List.mem_cons_of_mem _ hR,h1⟩
theorem zy8 (P:Nat->Nat->Prop)(hP:∀ a b c,P a b->P b c->P a c)(n:Nat):∀ (d m:Nat) (M:Nat->Nat->Bool),n-m=d->(∀ a b,M a b=true->P a b)->∀ a b,fwM n M m a b=true->P a b:=by
 intro d
 induction d with
 | zero=>
  intro m M hd hM a b h;rw[zrp (by omega)] at h;exact hM a b h
 | succ d ih=>
  intro m M hd hM a b h;rw[zy7 (by omega)] at h;refine ih (m+1) _ (by omega) (λ x y yo=>?_) a b h;rw[z53 n m (n-0) 0 M rfl] at yo;simp at yo;rcases yo with h1 | h1
  ·exact hM x y h1
  ·exact hP x m y (hM x m h1.1.2) (hM m y h1.2)
theorem zsg {E:List zgp}{c:B8}(h:zd4 E a b)(t:zd4 E b c):zd4 E a c:=by
 induction t with
 | one h1=>exact .next h h1
 | next _ h1 ih=>exact .next ih h1
theorem z3n (aL:zd2 ps (rs.flatMap zP.atoms))(ha:0<=zM ps a)(hb:0<=zM ps b):zfh (vY (rs.map yT)) a b=vF ps rs (vZ ps a) (vZ ps b):=by
 have Lo:∀ R∈rs,0<=zM ps R.head.pred:=λ R hR=>aL _ (List.mem_flatMap.2 ⟨R,hR,List.mem_cons_self⟩)
 have lO:∀ R∈rs,∀ A∈R.body,0<=zM ps A.pred:=λ R hR A hA=>aL _ (List.mem_flatMap.2 ⟨R,hR,List.mem_cons_of_mem _ hA⟩)
 rw[Bool.eq_iff_iff];unfold zfh;simp only[decide_eq_true_eq]
 constructor
 ·intro h;have key:∀ y,zd4 (vY (rs.map yT)) a y->vF ps rs (vZ ps a) (vZ ps y)=true/\0<=zM ps y:=by
   intro y hy
   induction hy with
   | one h1=>
    obtain⟨R,hR,A,hA,rfl,rfl⟩:=zj9.1 h1;exact⟨R9 hR hA,lO R hR A hA⟩
   | next t h1 ih=>
    obtain⟨R,hR,A,hA,rfl,rfl⟩:=zj9.1 h1;exact⟨zfz (xN ha) (xN ih.2) (xN (lO R hR A hA)) ih.1 (R9 hR hA),lO R hR A hA⟩
  exact (key b h).1
 ·intro h;have:=zy8 (λ i j=>zd4 (vY (rs.map yT)) (z7q ps i) (z7q ps j)) (λ _ _ _=>zsg) ps.length ps.length 0 (zg0 ps rs (λ _ _=>false)) rfl (λ i j hij=>?_) _ _ h
  ·rw[zns ha,zns hb] at this;exact this
  ·rcases zj0 rs hij with h1 | ⟨R,hR,rfl,A,hA,rfl⟩
   ·cases h1
   ·simp only[zns (Lo R hR),zns (lO R hR A hA)];exact .one (zj9.2 ⟨R,hR,A,hA,rfl,rfl⟩)
theorem zgz (ps:P9)(H:Nat->Nat->Bool)(hd:B8):∀ l:List zL,jS ps H hd l=jD (λ A=>if zm7 ps H hd A then (A.ak:Int) else -1) l
 | []=>rfl
 | A::r=>by
  rw[jS,jD,<-zgz ps H hd r]
  by_cases h:zm7 ps H hd A=true
  ·simp[h]
  ·simp[h]
theorem zij (ps:P9)(H:Nat->Nat->Bool):∀ rs:List zP,vL ps H rs=jD (λ R=>jS ps H R.head.pred R.body) rs
 | []=>rfl
 | R::r=>by rw[vL,jD,zij ps H r]
theorem zik (rs:List vX):∀ ms:List xU,qO rs ms=jD (λ M=>if z51 rs M then (M.start:Int) else -1) ms
 | []=>rfl
 | M::r=>by
  rw[qO,jD,<-zik rs r]
  by_cases h:z51 rs M=true
  ·simp[h]
  ·simp[h]
theorem z3f (h:jZ 0 rs ms)(aL:zd2 ps (rs.flatMap zP.atoms))(aR:∀ R∈rs,R.head.no=false):qO (rs.map yT) ms=vL ps (vF ps rs) rs:=by
 rw[zik,zij];refine zmc h _ _ (λ i R ms' hi hm=>?_);rw[Nat.zero_add] at hm;have hR:R∈rs:=List.mem_of_getElem? hi;have hh:zlj (rs.map yT) i=R.head.pred:=by
  unfold zlj;rw[List.getElem?_map,hi];rfl
 have hp:=aL R.head (List.mem_flatMap.2 ⟨R,hR,List.mem_cons_self⟩);rw[zpv hm _ (λ A=>if zm7 ps (vF ps rs) R.head.pred A then (A.ak:Int) else -1) (λ A hA M hM=>?_)]
 ·unfold zP.atoms;rw[jD,zgz];have:zm7 ps (vF ps rs) R.head.pred R.head=false:=by unfold zm7;rw[aR R hR];rfl
  simp[this]
 ·have LU:=aL A (List.mem_flatMap.2 ⟨R,hR,hA⟩);have e:z51 (rs.map yT) M=zm7 ps (vF ps rs) R.head.pred A:=by
   unfold z51 zm7;rw[hM.num,hh,hM.neg,hM.pd,z3n aL LU hp,z7i LU hp]
  simp only[e]
  by_cases hc:zm7 ps (vF ps rs) R.head.pred A=true
  ·rw[if_pos hc,if_pos hc];have:A.no=true:=by unfold zm7 at hc;simp at hc;exact hc.1
   rw[hM.start this]
  ·rw[if_neg hc,if_neg hc]
theorem zwq {s:B8}(f:Nat):∀ {p:Nat} {bd:Int} {l:List zP},(∀ R∈l,R.head.no=false)->∀ R∈(zbd s f p bd l).1,R.head.no=false:=by
 induction f with
 | zero=>intro p bd l h;exact h
 | succ f ih=>
  intro p bd l h;rw[zbd]
  split
  ·refine ih (λ R hR=>?_);rcases List.mem_append.1 hR with hR | hR
   ·exact h R hR
   ·simp at hR;subst hR;rfl
  ·exact h
theorem zzz (s:B8):z0w s=yH s:=by
 unfold z0w yH
 by_cases c0:800<s.size
 ·rw[if_pos c0,if_pos c0]
 ·rw[if_neg c0,if_neg c0]
  cases c1:(yS s).1 with
  | false=>
   have h:=(zg7 s).2 c1;rw[if_pos rfl,h,if_pos (by omega)]
  | true=>
   obtain⟨h1,h2,h3⟩:=(zg7 s).1 c1;rw[if_neg (show ¬ (true=false) by decide),h1,if_neg (show ¬ ((0:Int)<=-1) by decide),h2];obtain⟨Q,Q1,Q2,Q3⟩:=z1z h3;have ea:zb7 (yS s).2.2.2 []=(yA s).1:=by
    unfold yA;rw[<-Q1,<-Q2];exact zp2 Q [] Q3
   have eu:=zw9 h3;unfold zea;rw[ea,eu]
   by_cases c2:0<=(yA s).1
   ·simp[c2]
   ·have aL:zd2 (yA s).2 ((yO s).1.flatMap zP.atoms):=zdh _ c2;have ec:=z3f h3 aL (zwq 31 (by simp));rw[ec];rw[if_neg c2,if_neg c2]
    by_cases c3:0<=xB (yO s).1
    ·simp[c3]
    ·rw[if_neg c3,if_neg c3]
     by_cases c4:0<=vL (yA s).2 (vF (yA s).2 (yO s).1) (yO s).1
     ·simp[c4]
     ·simp[c4]
end
end Go.Proofs.YtldkpahaocjdpaaGreat
