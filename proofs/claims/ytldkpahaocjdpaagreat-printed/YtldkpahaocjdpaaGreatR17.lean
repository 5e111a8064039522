/-
  Plain: where no predicate has two numbers of terms all are there; where nothing hangs on its own not being so, some numbers keep to the rules.
-/
import Derived.Test.YtldkpahaocjdpaaGreatR16
set_option maxHeartbeats 16000000
set_option maxRecDepth 1000000
namespace Go.Proofs.YtldkpahaocjdpaaGreat
section
theorem zso (nm:B8)(m:P9):∀ (l:P9) (k:Nat),0<=xX nm l k->xX nm (l++m) k=xX nm l k
 | [],k,h=>by simp[xX] at h
 | x::r,k,h=>by
  rw[List.cons_append];unfold xX at h ⊢
  split
  ·rfl
  ·rename_i bG;rw[if_neg bG] at h;exact zso nm m r (k+1) h
theorem z24 (nm:B8)(n:Nat):∀ (l:P9) (k:Nat),0<=xX nm (l++[(nm,n)]) k
 | [],k=>by simp[xX]
 | x::r,k=>by
  rw[List.cons_append];unfold xX
  split
  ·omega
  ·exact z24 nm n r (k+1)
theorem z73 (ps:P9)(nm:B8)(n:Nat):0<=xM (zao ps nm n) nm:=by
 unfold zao;split
 ·exact z24 nm n ps 0
 ·omega
theorem zvk (ps:P9)(nm:B8)(n:Nat)(x:B8)(h:0<=xM ps x):0<=xM (zao ps nm n) x:=by
 unfold zao;split
 ·unfold xM at *;rw[zso x _ ps 0 h];exact h
 ·exact h
theorem zzw (l:List yY):∀ ps,(zax l ps).1<0->(∀ A∈l,0<=xM (zax l ps).2 A.pred)/\(∀ nm,0<=xM ps nm->0<=xM (zax l ps).2 nm):=by
 induction l with
 | nil=>intro ps _;exact⟨by simp,λ nm h=>h⟩
 | cons A r ih=>
  intro ps h;rw[zax] at h ⊢
  split
  ·rename_i hb;rw[if_pos hb] at h;obtain⟨h1,h2⟩:=ih _ h;refine⟨λ B hB=>?_,λ nm hn=>h2 nm (zvk ps A.pred A.aS.length nm hn)⟩;rcases List.mem_cons.1 hB with rfl | hB
   ·exact h2 _ (z73 ps B.pred B.aS.length)
   ·exact h1 B hB
  ·rename_i hb;rw[if_neg hb] at h;simp at h;omega
theorem zhk (l:List yY)(h:¬ 0<=(zax l []).1):zut (zax l []).2 l:=(zzw l [] (by omega)).1
theorem yea (n m i:Nat):∀ (d k:Nat) (M:Nat->Nat->Bool),n-k=d->∀ a b,fwK n m i M k a b=(M a b||(decide (a=i)&&decide (k<=b)&&decide (b<n)&&M i m&&M m b)):=by
 intro d
 induction d with
 | zero=>
  intro k M hd a b;rw[yby (by omega)];have:¬ (k<=b/\b<n):=by omega
  by_cases h1:k<=b <;> by_cases h2:b<n <;> simp[h1,h2] <;> omega
 | succ d ih=>
  intro k M hd a b;rw[yeb (by omega),ih (k+1) _ (by omega) a b];have hM:∀ a b,(if M i m&&M m k then upd M i k else M) a b=(M a b||(decide (a=i)&&decide (b=k)&&M i m&&M m k)):=by
   intro a b
   cases h1:M i m <;> cases h2:M m k <;> simp[upd,Bool.or_comm]
  rw[hM a b,hM i m,hM m b];have CK:k<n:=by omega
  by_cases e1:a=i
  ·by_cases e2:b=k
   ·subst e2
    cases M a b <;> cases M i m <;> cases M m b <;> simp[e1,CK]
   ·by_cases e3:k<=b
    ·have e4:k+1<=b:=by omega
     cases M a b <;> cases M i m <;> cases M m b <;> simp[e1,e2,e3,e4]
    ·have e4:¬ k+1<=b:=by omega
     cases M a b <;> simp[e2,e3,e4]
  ·cases M a b <;> simp[e1]
theorem yaf (n m:Nat):∀ (d i:Nat) (M:Nat->Nat->Bool),n-i=d->∀ a b,fwI n m M i a b=(M a b||(decide (i<=a)&&decide (a<n)&&decide (b<n)&&M a m&&M m b)):=by
 intro d
 induction d with
 | zero=>
  intro i M hd a b;rw[ybx (by omega)]
  by_cases h1:i<=a <;> by_cases h2:a<n <;> simp[h1,h2] <;> omega
 | succ d ih=>
  intro i M hd a b;have hM:=yea n m i _ 0 M rfl;rw[yd9 (by omega),ih (i+1) _ (by omega) a b,hM a b,hM a m,hM m b];have ak:i<n:=by omega
  by_cases e1:a=i
  ·subst e1;have e4:¬ a+1<=a:=by omega
   cases M a b <;> cases M a m <;> cases M m b <;> simp[e4,ak]
  ·by_cases e3:i<=a
   ·have e4:i+1<=a:=by omega
    by_cases e5:m=i
    ·subst e5
     cases M a b <;> cases M a m <;> cases M m b <;> cases M m m <;> simp[e1,e3,e4]
    ·cases M a b <;> cases M a m <;> cases M m b <;> simp[e1,e3,e4,e5]
   ·have e4:¬ i+1<=a:=by omega
    cases M a b <;> simp[e1,e3,e4]
theorem zov (n:Nat):∀ (d m:Nat) (M:Nat->Nat->Bool),n-m=d->m<=n->(∀ i j k,i<n->k<n->j<m->M i j=true->M j k=true->M i k=true) ->
  (∀ i j k,i<n->k<n->j<n->fwM n M m i j=true->fwM n M m j k=true->fwM n M m i k=true)/\(∀ i k,M i k=true->fwM n M m i k=true):=by
 intro d
 induction d with
 | zero=>
  intro m M hd bD h;rw[z2s (by omega)];exact⟨λ i j k hi hk hj=>h i j k hi hk (by omega),λ i k h=>h⟩
 | succ d ih=>
  intro m M hd bD h;have hm:m<n:=by omega
  have hM:=yaf n m _ 0 M rfl;rw[yag hm];have iq:∀ i j k,i<n->k<n->j<m+1->fwI n m M 0 i j=true->fwI n m M 0 j k=true->fwI n m M 0 i k=true:=by
   intro i j k hi hk hj h1 h2;have FD:j<n:=(by omega);rw[hM] at h1 h2 ⊢;simp only[Nat.zero_le,decide_true,Bool.true_and,hi,FD,hk,Bool.or_eq_true,Bool.and_eq_true] at h1 h2 ⊢
   by_cases ej:j=m
   ·subst ej;have a1:M i j=true:=(by rcases h1 with h1 | h1;exact h1;exact h1.1);have a2:M j k=true:=(by rcases h2 with h2 | h2;exact h2;exact h2.2);exact .inr ⟨a1,a2⟩
   ·have CI:j<m:=(by omega);rcases h1 with h1 | ⟨h1,IC⟩ <;> rcases h2 with h2 | ⟨h2,rX⟩
    ·exact .inl (h i j k hi hk CI h1 h2)
    ·exact .inr ⟨h i j m hi hm CI h1 h2,rX⟩
    ·exact .inr ⟨h1,h m j k hm hk CI IC h2⟩
    ·exact .inr ⟨h1,rX⟩
  obtain⟨g1,g2⟩:=ih (m+1) (fwI n m M 0) (by omega) (by omega) iq;exact⟨g1,λ i k hik=>g2 i k (by rw[hM,hik];rfl)⟩
variable {i j:Nat}
theorem z9s {M:Nat->Nat->Bool}{a b:Nat}(h:M a b=true):upd M i j a b=true:=by simp[upd,h]
variable {h:Nat} {ps:P9}
theorem zle (l:List yY):∀ {M:Nat->Nat->Bool} {a b:Nat},M a b=true->zsh ps h l M a b=true:=by
 induction l with
 | nil=>intro M a b hM;exact hM
 | cons A r ih=>intro M a b hM;exact ih (z9s hM)
theorem zzc (l:List yU):∀ {M:Nat->Nat->Bool} {a b:Nat},M a b=true->zu9 ps l M a b=true:=by
 induction l with
 | nil=>intro M a b hM;exact hM
 | cons R r ih=>intro M a b hM;exact ih (zle R.body hM)
theorem zzb (l:List yY):∀ {M:Nat->Nat->Bool} {A:yY},A∈l->zsh ps h l M h (zcx ps A.pred)=true:=by
 induction l with
 | nil=>intro M A hA;cases hA
 | cons B r ih=>
  intro M A hA;rcases List.mem_cons.1 hA with rfl | hA
  ·exact zle r (by simp[upd])
  ·exact ih hA
theorem z2h (l:List yU):∀ {M:Nat->Nat->Bool} {R:yU} {A:yY},R∈l->A∈R.body->zu9 ps l M (zcx ps R.head.pred) (zcx ps A.pred)=true:=by
 induction l with
 | nil=>intro M R A hR;cases hR
 | cons B r ih=>
  intro M R A hR hA;rcases List.mem_cons.1 hR with rfl | hR
  ·exact zzc r (zzb R.body hA)
  ·exact ih hR hA
variable {rs:List yU}
theorem NK {R:yU}{A:yY}(hR:R∈rs)(hA:A∈R.body):qY ps rs (zcx ps R.head.pred) (zcx ps A.pred)=true:=
 (zov ps.length _ 0 _ rfl (Nat.zero_le _) (by intro i j k _ _ hj;omega)).2 _ _ (z2h rs hR hA)
theorem zg3 {k:Nat}(hi:i<ps.length)(hj:j<ps.length)(hk:k<ps.length)(h1:qY ps rs i j=true)(h2:qY ps rs j k=true):qY ps rs i k=true:=
 (zov ps.length _ 0 (zu9 ps rs (λ _ _=>false)) rfl (Nat.zero_le _) (by intro i j k _ _ hj;omega)).1 i j k hi hk hj h1 h2
variable {H:Nat->Nat->Bool}
theorem zy8 {hd:B8}(l:List yY)(h:ze1 ps H hd l<0):∀ A∈l,zy7 ps H hd A=false:=by
 induction l with
 | nil=>simp
 | cons B r ih=>
  rw[ze1] at h
  split at h
  ·omega
  ·rename_i hb;intro A hA;rcases List.mem_cons.1 hA with rfl | hA
   ·simpa using hb
   ·exact ih h A hA
theorem z7h (l:List yU)(h:zel ps H l<0):∀ R∈l,∀ A∈R.body,zy7 ps H R.head.pred A=false:=by
 induction l with
 | nil=>simp
 | cons B r ih=>
  rw[zel] at h
  split at h
  ·omega
  ·rename_i hb;intro R hR;rcases List.mem_cons.1 hR with rfl | hR
   ·exact zy8 R.body (by omega)
   ·exact ih h R hR
theorem z2f {α:Type}{p r:α->Bool}(l:List α)(h:∀ x∈l,p x=true->r x=true){y:α}(hy:y∈l)(hr:r y=true)(hp:p y=false):l.countP p+1<=l.countP r:=by
 induction l with
 | nil=>cases hy
 | cons x t ih=>
  have hm:t.countP p<=t.countP r:=List.countP_mono_left (λ z hz=>h z (List.mem_cons_of_mem _ hz));rcases List.mem_cons.1 hy with rfl | hy
  ·rw[List.countP_cons_of_pos hr,List.countP_cons_of_neg (by rw[hp];decide)];omega
  ·have h1:=ih (λ z hz=>h z (List.mem_cons_of_mem _ hz)) hy
   cases e:p x with
   | true=>rw[List.countP_cons_of_pos e,List.countP_cons_of_pos (h x List.mem_cons_self e)];omega
   | false=>
    rw[List.countP_cons_of_neg (by rw[e];decide)];have:t.countP r<=(x::t).countP r:=by
     cases e2:r x with
     | true=>rw[List.countP_cons_of_pos e2];omega
     | false=>rw[List.countP_cons_of_neg (by rw[e2];decide)];omega
    omega
def yak (ps:P9)(rs:List yU)(p x:Nat):Bool:=
 rs.any λ R=>R.body.any λ A=>A.no&&((p==zcx ps R.head.pred||qY ps rs p (zcx ps R.head.pred))&&(zcx ps A.pred==x||qY ps rs (zcx ps A.pred) x))
theorem zoh (ps:P9)(rs:List yU)(bh:zut ps (rs.flatMap yU.atoms))(h:¬ 0<=zel ps (qY ps rs) rs):∃ f,ydy ps rs f/\∀ i,f i<=ps.length:=by
 have cP:=z7h rs (show zel ps (qY ps rs) rs<0 by omega);have nC:∀ R∈rs,0<=xM ps R.head.pred:=λ R hR=>bh _ (List.mem_flatMap.2 ⟨R,hR,List.mem_cons_self⟩)
 have cU:∀ R∈rs,∀ A∈R.body,0<=xM ps A.pred:=λ R hR A hA=>bh _ (List.mem_flatMap.2 ⟨R,hR,List.mem_cons_of_mem _ hA⟩)
 have DG:∀ R∈rs,zcx ps R.head.pred<ps.length:=λ R hR=>zdi (nC R hR)
 have AN:∀ R∈rs,∀ A∈R.body,zcx ps A.pred<ps.length:=λ R hR A hA=>zdi (cU R hR A hA)
 refine⟨λ p=>(List.range ps.length).countP (yak ps rs p),λ R hR A hA=>?_,λ i=>by have:=List.countP_le_length (p:=yak ps rs i) (l:=List.range ps.length);simpa using this⟩;have FW:=NK (ps:=ps) hR hA;have himp:∀ x∈List.range ps.length,yak ps rs (zcx ps A.pred) x=true->yak ps rs (zcx ps R.head.pred) x=true:=by
  intro x _ hx;unfold yak at hx ⊢;simp only[List.any_eq_true,Bool.and_eq_true,Bool.or_eq_true,beq_iff_eq] at hx ⊢;obtain⟨R',qf,A',Lx,hn,h1,h2⟩:=hx;refine⟨R',qf,A',Lx,hn,.inr ?_,h2⟩;rcases h1 with h1 | h1
  ·rw[<-h1];exact FW
  ·exact zg3 (DG R hR) (AN R hR A hA) (DG R' qf) FW h1
 unfold ydr
 cases Dc:A.no with
 | false=>
  simp only[Bool.false_eq_true,if_false,Nat.add_zero];exact List.countP_mono_left himp
 | true=>
  simp only[if_true];refine z2f _ himp (y:=zcx ps A.pred) (List.mem_range.2 (AN R hR A hA)) ?_ ?_
  ·unfold yak;simp only[List.any_eq_true,Bool.and_eq_true,Bool.or_eq_true,beq_iff_eq];exact⟨R,hR,A,hA,Dc,.inl rfl,.inl rfl⟩
  ·cases hq:yak ps rs (zcx ps A.pred) (zcx ps A.pred) with
   | false=>rfl
   | true=>
    exfalso
    unfold yak at hq;simp only[List.any_eq_true,Bool.and_eq_true,Bool.or_eq_true,beq_iff_eq] at hq;obtain⟨R',qf,A',Lx,hn,h1,h2⟩:=hq;have hc:=cP R' qf A' Lx;unfold zy7 at hc;rw[hn,Bool.true_and,Bool.or_eq_false_iff] at hc;obtain⟨mC,nA⟩:=hc;have lq:=AN R hR A hA;have la:=DG R' qf;have lb:=AN R' qf A' Lx;have key:zcx ps A'.pred=zcx ps R'.head.pred\/qY ps rs (zcx ps A'.pred) (zcx ps R'.head.pred)=true:=by
     rcases h2 with h2 | h2 <;> rcases h1 with h1 | h1
     ·exact .inl (h2.trans h1)
     ·exact .inr (by rw[h2];exact h1)
     ·exact .inr (by rw[<-h1];exact h2)
     ·exact .inr (zg3 lb lq la h2 h1)
    rcases key with key | key
    ·have p1:=cU R' qf A' Lx;have p2:=nC R' qf;unfold zcx at key;have:xM ps A'.pred=xM ps R'.head.pred:=by omega
     rw[this] at mC;simp at mC
    ·rw[key] at nA;cases nA
end
section
variable {ms:List yT} {rs:List yU} {n:Nat}
theorem z5v (h:jU n rs ms):∃ Q:List (yY × yT),Q.map (·.1)=rs.flatMap yU.atoms/\Q.map (·.2)=ms/\∀ x∈Q,∃ i,zjr i x.1 x.2:=by
 induction h with
 | nil n=>exact⟨[],rfl,rfl,by simp⟩
 | cons h t ih=>
  obtain⟨q,q1,q2,q3⟩:=h;obtain⟨Q,Q1,Q2,Q3⟩:=ih;refine⟨q++Q,by simp[q1,Q1],by simp[q2,Q2],λ x hx=>?_⟩;rcases List.mem_append.1 hx with hx | hx
  ·exact⟨_,q3 x hx⟩
  ·exact Q3 x hx
theorem ztc:∀ (Q:List (yY × yT)) (ps:P9),(∀ x∈Q,∃ i,zjr i x.1 x.2)->zar (Q.map (·.2)) ps=(zax (Q.map (·.1)) ps).1
 | [],ps,_=>rfl
 | x::r,ps,h=>by
  obtain⟨i,hx⟩:=h x List.mem_cons_self;have ih:=λ AQ=>ztc r AQ (λ y hy=>h y (List.mem_cons_of_mem _ hy))
  have e1:x.2.ts.length=x.1.aS.length:=by rw[hx.ts];simp
  simp only[List.map_cons,zar,zax];rw[hx.pd,e1,ih,hx.place]
  split <;> rfl
def vP {α:Type}(F:α->Int):List α->Int
 | []=>-1
 | x::r=>if 0<=F x then F x else vP F r
theorem zjz {α:Type}(F:α->Int)(b:List α):∀ (a:List α),vP F (a++b)=if 0<=vP F a then vP F a else vP F b
 | []=>by simp[vP]
 | x::r=>by
  rw[List.cons_append,vP,vP,zjz F b r]
  by_cases h:0<=F x
  ·simp[h]
  ·simp[h]
theorem zps (h:jU n rs ms)(F:yT->Int)(G:yU->Int):(∀ i R ms',rs[i]?=some R->cK (n+i) R.atoms ms'->vP F ms'=G R)->vP F ms=vP G rs:=by
 induction h with
 | nil n=>intro _;rfl
 | @cons n R rs ms ms' h t ih=>
  intro hG;have h1:=hG 0 R ms rfl h
  have h2:=ih (λ i R' ms'' hi hm=>hG (i+1) R' ms'' (by simpa using hi) (by
   have e:n+(i+1)=n+1+i:=by omega
   rw[e];exact hm))
  rw[zjz,h1,h2,vP]
theorem zs3 {i:Nat}{l:List yY}(h:cK i l ms)(F:yT->Int)(G:yY->Int)(hG:∀ A∈l,∀ M,zjr i A M->F M=G A):vP F ms=vP G l:=by
 obtain⟨q,rfl,rfl,q3⟩:=h
 induction q with
 | nil=>rfl
 | cons x r ih=>
  have h1:=hG x.1 (by simp) x.2 (q3 x List.mem_cons_self);have h2:=ih (λ A hA M hM=>hG A (List.mem_cons_of_mem _ hA) M hM) (λ y hy=>q3 y (List.mem_cons_of_mem _ hy));simp only[List.map_cons,vP,h1,h2]
theorem yec (v:B8)(l:List zeo):zll v (l.map a8)=l.any (Nj v):=by
 unfold zll;rw[List.any_map];rfl
theorem z69 (v:B8)(body:List yY):zey v (body.map bl)=zrf v body:=by
 unfold zey zrf
 induction body with
 | nil=>rfl
 | cons A r ih=>
  rw[List.map_cons,List.filter_cons,List.any_cons,<-ih]
  cases hn:A.no with
  | true=>simp[bl,hn,z5d]
  | false=>simp[bl,hn,z5d,yec]
theorem zxy (body:List yY)(pl:Nat->Nat):∀ (l:List zeo) (k:Nat),(∀ i (h:i<l.length),pl (k+i)=(l[i]).at_)->(match xI (body.map bl) (l.map a8) k with | some i=>(pl i:Int) | none=>-1)=za3 body l
 | [],k,_=>rfl
 | t::r,k,h=>by
  have ih:=zxy body pl r (k+1) (λ i hi=>by
   have:=h (i+1) (by simpa using hi)
   rw[show k+1+i=k+(i+1) by omega,this];simp)
  simp only[List.map_cons,xI,za3];rw[show (a8 t).1=t.isVar from rfl,show (a8 t).2=t.text from rfl,z69]
  by_cases hc:(t.isVar&&!zrf t.text body)=true
  ·rw[if_pos hc,if_pos hc];have:=h 0 (by simp);simp only[Nat.add_zero,List.getElem_cons_zero] at this;simp only[this]
  ·rw[if_neg hc,if_neg hc];exact ih
theorem z3n {body:List yY}{A:yY}(hA:A∈body)(hn:A.no=false):za3 body A.aS=-1:=by
 have key:∀ l:List zeo,(∀ t∈l,t∈A.aS)->za3 body l=-1:=by
  intro l
  induction l with
  | nil=>intro _;rfl
  | cons t r ih=>
   intro h;rw[za3,if_neg,ih (λ u hu=>h u (List.mem_cons_of_mem _ hu))]
   cases hv:t.isVar with
   | false=>simp
   | true=>
    have hs:zrf t.text body=true:=by
     unfold zrf;rw[List.any_eq_true];refine⟨A,hA,?_⟩;unfold z5d;rw[hn];simp only[Bool.not_false,Bool.true_and];rw[List.any_eq_true];exact⟨t,h t List.mem_cons_self,by simp[Nj,hv]⟩
    simp[hs]
 exact key A.aS (λ t h=>h)
theorem zfc (body:List yY):∀ l:List yY,(∀ A∈l,A∈body)->zb4 body l=vP (λ A=>za3 body A.aS) l
 | [],_=>rfl
 | A::r,h=>by
  rw[zb4,vP,<-zfc body r (λ B hB=>h B (List.mem_cons_of_mem _ hB))]
  cases hn:A.no with
  | true=>simp
  | false=>
   rw[z3n (h A List.mem_cons_self) hn];simp
theorem zka:∀ rs:List yU,zbi rs=vP zfd rs
 | []=>rfl
 | R::r=>by rw[zbi,vP,zka r]
def yfc (rs:List yH)(M:yT):Int:=match xI (zez rs M.num) M.ts 0 with | some i=>(M.pl i:Int) | none=>-1
theorem zin (rs:List yH):∀ ms:List yT,vN rs ms=vP (yfc rs) ms
 | []=>rfl
 | M::r=>by
  rw[vN,vP,<-zin rs r];unfold yfc
  cases xI (zez rs M.num) M.ts 0 with
  | none=>simp
  | some i=>simp
theorem z08 (h:jU 0 rs ms):vN (rs.map yV) ms=zbi rs:=by
 rw[zin,zka];refine zps h _ _ (λ i R ms' hi hm=>?_);rw[Nat.zero_add] at hm;have hb:zez (rs.map yV) i=R.body.map bl:=by
  unfold zez;rw[List.getElem?_map,hi];rfl
 rw[zs3 hm (yfc (rs.map yV)) (λ A=>za3 R.body A.aS) (λ A _ M hM=>?_)]
 ·unfold yU.atoms zfd;rw[vP,zfc R.body R.body (λ A hA=>hA)]
 ·unfold yfc;rw[hM.num,hb,hM.ts];exact zxy R.body M.pl A.aS 0 (λ i hi=>by rw[Nat.zero_add];exact hM.pl i hi)
theorem z26 (nm:B8):∀ (l:P9) (k:Nat),0<=xX nm l k->(l.getD (xX nm l k-k).toNat (nm,0)).1=nm
 | [],k,h=>by simp[xX] at h
 | x::r,k,h=>by
  unfold xX at h ⊢
  by_cases hx:(x.1.toList==nm.toList)=true
  ·rw[if_pos hx];simp;exact yB.1 hx
  ·rw[if_neg hx] at h ⊢;have ih:=z26 nm r (k+1) h;have:=(z7t nm r (k+1) h).1;have e:(xX nm r (k+1)-(k:Int)).toNat=(xX nm r (k+1)-((k+1:Nat):Int)).toNat+1:=(by omega);rw[e];simpa using ih
def yfa (ps:P9)(i:Nat):B8:=(ps.getD i ({ data:=#[] },0)).1
variable {ps:P9}
theorem zzz {x:B8}(h:0<=xM ps x):yfa ps (zcx ps x)=x:=by
 have h1:=z26 x ps 0 h;have bP:=zdi h;unfold yfa zcx;rw[show xX x ps 0=xM ps x from rfl] at h1;simp only[Int.natCast_zero,Int.sub_zero] at h1;rw[List.getD_eq_getElem?_getD,List.getElem?_eq_getElem bP] at h1 ⊢;simpa using h1
variable {a b:B8}
theorem yb2 (ha:0<=xM ps a)(hb:0<=xM ps b):(xM ps a==xM ps b)=(a.toList==b.toList):=by
 rw[Bool.eq_iff_iff]
 constructor
 ·intro h;have h1:xM ps a=xM ps b:=by simpa using h
  have h2:=zzz ha;rw[show zcx ps a=zcx ps b by unfold zcx;rw[h1],zzz hb] at h2;rw[h2];simp
 ·intro h;rw[yB.1 h];simp
theorem zlu {x y:B8}:(x,y)∈xW (rs.map yV)↔∃ R∈rs,∃ A∈R.body,x=R.head.pred/\y=A.pred:=by
 unfold xW zgm
 constructor
 ·intro h;obtain⟨P,hP,h⟩:=List.mem_flatMap.1 h;obtain⟨R,hR,rfl⟩:=List.mem_map.1 hP;obtain⟨L,hL,h⟩:=List.mem_map.1 h;obtain⟨A,hA,rfl⟩:=List.mem_map.1 hL;injection h with h1 h2
  exact⟨R,hR,A,hA,h1.symm,h2.symm⟩
 ·rintro⟨R,hR,A,hA,rfl,rfl⟩;exact List.mem_flatMap.2 ⟨yV R,List.mem_map_of_mem hR,List.mem_map.2 ⟨bl A,List.mem_map_of_mem hA,rfl⟩⟩
theorem zjy {ps:P9}{h:Nat}:∀ (l:List yY) {M:Nat->Nat->Bool} {a b:Nat},zsh ps h l M a b=true->M a b=true\/(a=h/\∃ A∈l,b=zcx ps A.pred)
 | [],M,a,b,hm=>.inl hm
 | A::r,M,a,b,hm=>by
  rcases zjy r hm with h1 | ⟨h1,B,hB,h2⟩
  ·unfold upd at h1;simp at h1;rcases h1 with⟨h1,h2⟩ | h1
   ·exact .inr ⟨h1,A,List.mem_cons_self,h2⟩
   ·exact .inl h1
  ·exact .inr ⟨h1,B,List.mem_cons_of_mem _ hB,h2⟩
theorem zlf {ps:P9}:∀ (l:List yU) {M:Nat->Nat->Bool} {a b:Nat},zu9 ps l M a b=true->M a b=true\/∃ R∈l,a=zcx ps R.head.pred/\∃ A∈R.body,b=zcx ps A.pred
 | [],M,a,b,hm=>.inl hm
 | R::r,M,a,b,hm=>by
  rcases zlf r hm with h1 | ⟨R',hR,h1⟩
  ·rcases zjy R.body h1 with h2 | ⟨h2,A,hA,h3⟩
   ·exact .inl h2
   ·exact .inr ⟨R,List.mem_cons_self,h2,A,hA,h3⟩
  ·exact .inr ⟨R',List.mem_cons_of_mem _ hR,h1⟩
theorem z2t (P:Nat->Nat->Prop)(hP:∀ a b c,P a b->P b c->P a c)(n:Nat):∀ (d m:Nat) (M:Nat->Nat->Bool),n-m=d->(∀ a b,M a b=true->P a b)->∀ a b,fwM n M m a b=true->P a b:=by
 intro d
 induction d with
 | zero=>
  intro m M hd hM a b h;rw[z2s (by omega)] at h;exact hM a b h
 | succ d ih=>
  intro m M hd hM a b h;rw[yag (by omega)] at h;refine ih (m+1) _ (by omega) (λ x y km=>?_) a b h;rw[yaf n m (n-0) 0 M rfl] at km;simp at km;rcases km with h1 | h1
  ·exact hM x y h1
  ·exact hP x m y (hM x m h1.1.2) (hM m y h1.2)
theorem zv3 {E:List zhi}{c:B8}(h:zdq E a b)(t:zdq E b c):zdq E a c:=by
 induction t with
 | one h1=>exact .next h h1
 | next _ h1 ih=>exact .next ih h1
theorem z7q (bh:zut ps (rs.flatMap yU.atoms))(ha:0<=xM ps a)(hb:0<=xM ps b):ze4 (xW (rs.map yV)) a b=qY ps rs (zcx ps a) (zcx ps b):=by
 have LZ:∀ R∈rs,0<=xM ps R.head.pred:=λ R hR=>bh _ (List.mem_flatMap.2 ⟨R,hR,List.mem_cons_self⟩)
 have jb:∀ R∈rs,∀ A∈R.body,0<=xM ps A.pred:=λ R hR A hA=>bh _ (List.mem_flatMap.2 ⟨R,hR,List.mem_cons_of_mem _ hA⟩)
 rw[Bool.eq_iff_iff];unfold ze4;simp only[decide_eq_true_eq]
 constructor
 ·intro h;have key:∀ y,zdq (xW (rs.map yV)) a y->qY ps rs (zcx ps a) (zcx ps y)=true/\0<=xM ps y:=by
   intro y hy
   induction hy with
   | one h1=>
    obtain⟨R,hR,A,hA,rfl,rfl⟩:=zlu.1 h1;exact⟨NK hR hA,jb R hR A hA⟩
   | next t h1 ih=>
    obtain⟨R,hR,A,hA,rfl,rfl⟩:=zlu.1 h1;exact⟨zg3 (zdi ha) (zdi ih.2) (zdi (jb R hR A hA)) ih.1 (NK hR hA),jb R hR A hA⟩
  exact (key b h).1
 ·intro h;have:=z2t (λ i j=>zdq (xW (rs.map yV)) (yfa ps i) (yfa ps j)) (λ _ _ _=>zv3) ps.length ps.length 0 (zu9 ps rs (λ _ _=>false)) rfl (λ i j hij=>?_) _ _ h
  ·rw[zzz ha,zzz hb] at this;exact this
  ·rcases zlf rs hij with h1 | ⟨R,hR,rfl,A,hA,rfl⟩
   ·cases h1
   ·simp only[zzz (LZ R hR),zzz (jb R hR A hA)];exact .one (zlu.2 ⟨R,hR,A,hA,rfl,rfl⟩)
theorem zhr (ps:P9)(H:Nat->Nat->Bool)(hd:B8):∀ l:List yY,ze1 ps H hd l=vP (λ A=>if zy7 ps H hd A then (A.lS:Int) else -1) l
 | []=>rfl
 | A::r=>by
  rw[ze1,vP,<-zhr ps H hd r]
  by_cases h:zy7 ps H hd A=true
  ·simp[h]
  ·simp[h]
theorem zjw (ps:P9)(H:Nat->Nat->Bool):∀ rs:List yU,zel ps H rs=vP (λ R=>ze1 ps H R.head.pred R.body) rs
 | []=>rfl
 | R::r=>by rw[zel,vP,zjw ps H r]
theorem zjx (rs:List yH):∀ ms:List yT,j4 rs ms=vP (λ M=>if z6j rs M then (M.start:Int) else -1) ms
 | []=>rfl
 | M::r=>by
  rw[j4,vP,<-zjx rs r]
  by_cases h:z6j rs M=true
  ·simp[h]
  ·simp[h]
theorem z7g (h:jU 0 rs ms)(bh:zut ps (rs.flatMap yU.atoms))(cP:∀ R∈rs,R.head.no=false):j4 (rs.map yV) ms=zel ps (qY ps rs) rs:=by
 rw[zjx,zjw];refine zps h _ _ (λ i R ms' hi hm=>?_);rw[Nat.zero_add] at hm;have hR:R∈rs:=List.mem_of_getElem? hi;have hh:zj1 (rs.map yV) i=R.head.pred:=by
  unfold zj1;rw[List.getElem?_map,hi];rfl
 have hp:=bh R.head (List.mem_flatMap.2 ⟨R,hR,List.mem_cons_self⟩);rw[zs3 hm _ (λ A=>if zy7 ps (qY ps rs) R.head.pred A then (A.lS:Int) else -1) (λ A hA M hM=>?_)]
 ·unfold yU.atoms;rw[vP,zhr];have:zy7 ps (qY ps rs) R.head.pred R.head=false:=by unfold zy7;rw[cP R hR];rfl
  simp[this]
 ·have ze:=bh A (List.mem_flatMap.2 ⟨R,hR,hA⟩);have e:z6j (rs.map yV) M=zy7 ps (qY ps rs) R.head.pred A:=by
   unfold z6j zy7;rw[hM.num,hh,hM.neg,hM.pd,z7q bh ze hp,yb2 ze hp]
  simp only[e]
  by_cases hc:zy7 ps (qY ps rs) R.head.pred A=true
  ·rw[if_pos hc,if_pos hc];have:A.no=true:=by unfold zy7 at hc;simp at hc;exact hc.1
   rw[hM.start this]
  ·rw[if_neg hc,if_neg hc]
theorem z0r {s:B8}(f:Nat):∀ {p:Nat} {bd:Int} {l:List yU},(∀ R∈l,R.head.no=false)->∀ R∈(zdk s f p bd l).1,R.head.no=false:=by
 induction f with
 | zero=>intro p bd l h;exact h
 | succ f ih=>
  intro p bd l h;rw[zdk]
  split
  ·refine ih (λ R hR=>?_);rcases List.mem_append.1 hR with hR | hR
   ·exact h R hR
   ·simp at hR;subst hR;rfl
  ·exact h
theorem zql (s:B8):zz9 s=z7 s:=by
 unfold zz9 z7
 by_cases c0:800<s.size
 ·rw[if_pos c0,if_pos c0]
 ·rw[if_neg c0,if_neg c0]
  cases c1:(zJ s).1 with
  | false=>
   have h:=(zh7 s).2 c1;rw[if_pos rfl,h,if_pos (by omega)]
  | true=>
   obtain⟨h1,h2,h3⟩:=(zh7 s).1 c1;rw[if_neg (show ¬ (true=false) by decide),h1,if_neg (show ¬ ((0:Int)<=-1) by decide),h2];obtain⟨Q,Q1,Q2,Q3⟩:=z5v h3;have ea:zar (zJ s).2.2.2 []=(zF s).1:=by
    unfold zF;rw[<-Q1,<-Q2];exact ztc Q [] Q3
   have eu:=z08 h3;unfold zc8;rw[ea,eu]
   by_cases c2:0<=(zF s).1
   ·simp[c2]
   ·have bh:zut (zF s).2 ((vE s).1.flatMap yU.atoms):=zhk _ c2;have ec:=z7g h3 bh (z0r 31 (by simp));rw[ec];rw[if_neg c2,if_neg c2]
    by_cases c3:0<=zbi (vE s).1
    ·simp[c3]
    ·rw[if_neg c3,if_neg c3]
     by_cases c4:0<=zel (zF s).2 (qY (zF s).2 (vE s).1) (vE s).1
     ·simp[c4]
     ·simp[c4]
end
end Go.Proofs.YtldkpahaocjdpaaGreat
