/-
  Plain: where no predicate has two numbers of terms all are there; where nothing hangs on its own not being so, some numbers keep to the rules.
-/
import Derived.Test.YtldkpahaocjdpaaGreatR16
set_option maxHeartbeats 16000000
set_option maxRecDepth 1000000
namespace Go.Proofs.YtldkpahaocjdpaaGreat
section
theorem zsn (nm:B8)(m:P9):∀ (l:P9) (k:Nat),0<=xW nm l k->xW nm (l++m) k=xW nm l k
 | [],k,h=>by simp[xW] at h
 | x::r,k,h=>by
  rw[List.cons_append];unfold xW at h ⊢
  split
  ·rfl
  ·rename_i bG;rw[if_neg bG] at h;exact zsn nm m r (k+1) h
theorem z23 (nm:B8)(n:Nat):∀ (l:P9) (k:Nat),0<=xW nm (l++[(nm,n)]) k
 | [],k=>by simp[xW]
 | x::r,k=>by
  rw[List.cons_append];unfold xW
  split
  ·omega
  ·exact z23 nm n r (k+1)
theorem z71 (ps:P9)(nm:B8)(n:Nat):0<=xL (zan ps nm n) nm:=by
 unfold zan;split
 ·exact z23 nm n ps 0
 ·omega
theorem zvj (ps:P9)(nm:B8)(n:Nat)(x:B8)(h:0<=xL ps x):0<=xL (zan ps nm n) x:=by
 unfold zan;split
 ·unfold xL at *;rw[zsn x _ ps 0 h];exact h
 ·exact h
theorem zzv (l:List yX):∀ ps,(zaw l ps).1<0->(∀ A∈l,0<=xL (zaw l ps).2 A.pred)/\(∀ nm,0<=xL ps nm->0<=xL (zaw l ps).2 nm):=by
 induction l with
 | nil=>intro ps _;exact⟨by simp,λ nm h=>h⟩
 | cons A r ih=>
  intro ps h;rw[zaw] at h ⊢
  split
  ·rename_i hb;rw[if_pos hb] at h;obtain⟨h1,h2⟩:=ih _ h;refine⟨λ B hB=>?_,λ nm hn=>h2 nm (zvj ps A.pred A.aS.length nm hn)⟩;rcases List.mem_cons.1 hB with rfl | hB
   ·exact h2 _ (z71 ps B.pred B.aS.length)
   ·exact h1 B hB
  ·rename_i hb;rw[if_neg hb] at h;simp at h;omega
theorem zhj (l:List yX)(h:¬ 0<=(zaw l []).1):zus (zaw l []).2 l:=(zzv l [] (by omega)).1
theorem yd9 (n m i:Nat):∀ (d k:Nat) (M:Nat->Nat->Bool),n-k=d->∀ a b,fwK n m i M k a b=(M a b||(decide (a=i)&&decide (k<=b)&&decide (b<n)&&M i m&&M m b)):=by
 intro d
 induction d with
 | zero=>
  intro k M hd a b;rw[ybx (by omega)];have:¬ (k<=b/\b<n):=by omega
  by_cases h1:k<=b <;> by_cases h2:b<n <;> simp[h1,h2] <;> omega
 | succ d ih=>
  intro k M hd a b;rw[yea (by omega),ih (k+1) _ (by omega) a b];have hM:∀ a b,(if M i m&&M m k then upd M i k else M) a b=(M a b||(decide (a=i)&&decide (b=k)&&M i m&&M m k)):=by
   intro a b
   cases h1:M i m <;> cases h2:M m k <;> simp[upd,Bool.or_comm]
  rw[hM a b,hM i m,hM m b];have CK:k<n:=by omega
  by_cases e1:a=i
  ·by_cases e2:b=k
   ·subst e2
    cases M a b <;> cases M i m <;> cases M m b <;> simp[e1,CK]
   ·by_cases e3:k<=b
    ·have e4:k+1<=b:=by omega
     cases M a b <;> cases M i m <;> cases M m b <;> simp[e1,e2,e3,e4]
    ·have e4:¬ k+1<=b:=by omega
     cases M a b <;> simp[e2,e3,e4]
  ·cases M a b <;> simp[e1]
theorem yae (n m:Nat):∀ (d i:Nat) (M:Nat->Nat->Bool),n-i=d->∀ a b,fwI n m M i a b=(M a b||(decide (i<=a)&&decide (a<n)&&decide (b<n)&&M a m&&M m b)):=by
 intro d
 induction d with
 | zero=>
  intro i M hd a b;rw[ybw (by omega)]
  by_cases h1:i<=a <;> by_cases h2:a<n <;> simp[h1,h2] <;> omega
 | succ d ih=>
  intro i M hd a b;have hM:=yd9 n m i _ 0 M rfl;rw[yd8 (by omega),ih (i+1) _ (by omega) a b,hM a b,hM a m,hM m b];have ak:i<n:=by omega
  by_cases e1:a=i
  ·subst e1;have e4:¬ a+1<=a:=by omega
   cases M a b <;> cases M a m <;> cases M m b <;> simp[e4,ak]
  ·by_cases e3:i<=a
   ·have e4:i+1<=a:=by omega
    by_cases e5:m=i
    ·subst e5
     cases M a b <;> cases M a m <;> cases M m b <;> cases M m m <;> simp[e1,e3,e4]
    ·cases M a b <;> cases M a m <;> cases M m b <;> simp[e1,e3,e4,e5]
   ·have e4:¬ i+1<=a:=by omega
    cases M a b <;> simp[e1,e3,e4]
theorem zou (n:Nat):∀ (d m:Nat) (M:Nat->Nat->Bool),n-m=d->m<=n->(∀ i j k,i<n->k<n->j<m->M i j=true->M j k=true->M i k=true) ->
  (∀ i j k,i<n->k<n->j<n->fwM n M m i j=true->fwM n M m j k=true->fwM n M m i k=true)/\(∀ i k,M i k=true->fwM n M m i k=true):=by
 intro d
 induction d with
 | zero=>
  intro m M hd bD h;rw[z2r (by omega)];exact⟨λ i j k hi hk hj=>h i j k hi hk (by omega),λ i k h=>h⟩
 | succ d ih=>
  intro m M hd bD h;have hm:m<n:=by omega
  have hM:=yae n m _ 0 M rfl;rw[yaf hm];have iq:∀ i j k,i<n->k<n->j<m+1->fwI n m M 0 i j=true->fwI n m M 0 j k=true->fwI n m M 0 i k=true:=by
   intro i j k hi hk hj h1 h2;have FD:j<n:=(by omega);rw[hM] at h1 h2 ⊢;simp only[Nat.zero_le,decide_true,Bool.true_and,hi,FD,hk,Bool.or_eq_true,Bool.and_eq_true] at h1 h2 ⊢
   by_cases ej:j=m
   ·subst ej;have a1:M i j=true:=(by rcases h1 with h1 | h1;exact h1;exact h1.1);have a2:M j k=true:=(by rcases h2 with h2 | h2;exact h2;exact h2.2);exact .inr ⟨a1,a2⟩
   ·have CI:j<m:=(by omega);rcases h1 with h1 | ⟨h1,IC⟩ <;> rcases h2 with h2 | ⟨h2,rX⟩
    ·exact .inl (h i j k hi hk CI h1 h2)
    ·exact .inr ⟨h i j m hi hm CI h1 h2,rX⟩
    ·exact .inr ⟨h1,h m j k hm hk CI IC h2⟩
    ·exact .inr ⟨h1,rX⟩
  obtain⟨g1,g2⟩:=ih (m+1) (fwI n m M 0) (by omega) (by omega) iq;exact⟨g1,λ i k hik=>g2 i k (by rw[hM,hik];rfl)⟩
variable {i j:Nat}
theorem z9r {M:Nat->Nat->Bool}{a b:Nat}(h:M a b=true):upd M i j a b=true:=by simp[upd,h]
variable {h:Nat} {ps:P9}
theorem zld (l:List yX):∀ {M:Nat->Nat->Bool} {a b:Nat},M a b=true->zsg ps h l M a b=true:=by
 induction l with
 | nil=>intro M a b hM;exact hM
 | cons A r ih=>intro M a b hM;exact ih (z9r hM)
theorem zzb (l:List yT):∀ {M:Nat->Nat->Bool} {a b:Nat},M a b=true->zu8 ps l M a b=true:=by
 induction l with
 | nil=>intro M a b hM;exact hM
 | cons R r ih=>intro M a b hM;exact ih (zld R.body hM)
theorem zza (l:List yX):∀ {M:Nat->Nat->Bool} {A:yX},A∈l->zsg ps h l M h (zcw ps A.pred)=true:=by
 induction l with
 | nil=>intro M A hA;cases hA
 | cons B r ih=>
  intro M A hA;rcases List.mem_cons.1 hA with rfl | hA
  ·exact zld r (by simp[upd])
  ·exact ih hA
theorem z2g (l:List yT):∀ {M:Nat->Nat->Bool} {R:yT} {A:yX},R∈l->A∈R.body->zu8 ps l M (zcw ps R.head.pred) (zcw ps A.pred)=true:=by
 induction l with
 | nil=>intro M R A hR;cases hR
 | cons B r ih=>
  intro M R A hR hA;rcases List.mem_cons.1 hR with rfl | hR
  ·exact zzb r (zza R.body hA)
  ·exact ih hR hA
variable {rs:List yT}
theorem NK {R:yT}{A:yX}(hR:R∈rs)(hA:A∈R.body):qX ps rs (zcw ps R.head.pred) (zcw ps A.pred)=true:=
 (zou ps.length _ 0 _ rfl (Nat.zero_le _) (by intro i j k _ _ hj;omega)).2 _ _ (z2g rs hR hA)
theorem zg2 {k:Nat}(hi:i<ps.length)(hj:j<ps.length)(hk:k<ps.length)(h1:qX ps rs i j=true)(h2:qX ps rs j k=true):qX ps rs i k=true:=
 (zou ps.length _ 0 (zu8 ps rs (λ _ _=>false)) rfl (Nat.zero_le _) (by intro i j k _ _ hj;omega)).1 i j k hi hk hj h1 h2
variable {H:Nat->Nat->Bool}
theorem zy7 {hd:B8}(l:List yX)(h:ze0 ps H hd l<0):∀ A∈l,zy6 ps H hd A=false:=by
 induction l with
 | nil=>simp
 | cons B r ih=>
  rw[ze0] at h
  split at h
  ·omega
  ·rename_i hb;intro A hA;rcases List.mem_cons.1 hA with rfl | hA
   ·simpa using hb
   ·exact ih h A hA
theorem z7g (l:List yT)(h:zek ps H l<0):∀ R∈l,∀ A∈R.body,zy6 ps H R.head.pred A=false:=by
 induction l with
 | nil=>simp
 | cons B r ih=>
  rw[zek] at h
  split at h
  ·omega
  ·rename_i hb;intro R hR;rcases List.mem_cons.1 hR with rfl | hR
   ·exact zy7 R.body (by omega)
   ·exact ih h R hR
theorem z2e {α:Type}{p r:α->Bool}(l:List α)(h:∀ x∈l,p x=true->r x=true){y:α}(hy:y∈l)(hr:r y=true)(hp:p y=false):l.countP p+1<=l.countP r:=by
 induction l with
 | nil=>cases hy
 | cons x t ih=>
  have hm:t.countP p<=t.countP r:=List.countP_mono_left (λ z hz=>h z (List.mem_cons_of_mem _ hz));rcases List.mem_cons.1 hy with rfl | hy
  ·rw[List.countP_cons_of_pos hr,List.countP_cons_of_neg (by rw[hp];decide)];omega
  ·have h1:=ih (λ z hz=>h z (List.mem_cons_of_mem _ hz)) hy
   cases e:p x with
   | true=>rw[List.countP_cons_of_pos e,List.countP_cons_of_pos (h x List.mem_cons_self e)];omega
   | false=>
    rw[List.countP_cons_of_neg (by rw[e];decide)];have:t.countP r<=(x::t).countP r:=by
     cases e2:r x with
     | true=>rw[List.countP_cons_of_pos e2];omega
     | false=>rw[List.countP_cons_of_neg (by rw[e2];decide)];omega
    omega
def yaj (ps:P9)(rs:List yT)(p x:Nat):Bool:=
 rs.any λ R=>R.body.any λ A=>A.no&&((p==zcw ps R.head.pred||qX ps rs p (zcw ps R.head.pred))&&(zcw ps A.pred==x||qX ps rs (zcw ps A.pred) x))
theorem zog (ps:P9)(rs:List yT)(bh:zus ps (rs.flatMap yT.atoms))(h:¬ 0<=zek ps (qX ps rs) rs):∃ f,ydx ps rs f/\∀ i,f i<=ps.length:=by
 have cP:=z7g rs (show zek ps (qX ps rs) rs<0 by omega);have nC:∀ R∈rs,0<=xL ps R.head.pred:=λ R hR=>bh _ (List.mem_flatMap.2 ⟨R,hR,List.mem_cons_self⟩)
 have cU:∀ R∈rs,∀ A∈R.body,0<=xL ps A.pred:=λ R hR A hA=>bh _ (List.mem_flatMap.2 ⟨R,hR,List.mem_cons_of_mem _ hA⟩)
 have DG:∀ R∈rs,zcw ps R.head.pred<ps.length:=λ R hR=>zdh (nC R hR)
 have AN:∀ R∈rs,∀ A∈R.body,zcw ps A.pred<ps.length:=λ R hR A hA=>zdh (cU R hR A hA)
 refine⟨λ p=>(List.range ps.length).countP (yaj ps rs p),λ R hR A hA=>?_,λ i=>by have:=List.countP_le_length (p:=yaj ps rs i) (l:=List.range ps.length);simpa using this⟩;have FW:=NK (ps:=ps) hR hA;have himp:∀ x∈List.range ps.length,yaj ps rs (zcw ps A.pred) x=true->yaj ps rs (zcw ps R.head.pred) x=true:=by
  intro x _ hx;unfold yaj at hx ⊢;simp only[List.any_eq_true,Bool.and_eq_true,Bool.or_eq_true,beq_iff_eq] at hx ⊢;obtain⟨R',qf,A',Lx,hn,h1,h2⟩:=hx;refine⟨R',qf,A',Lx,hn,.inr ?_,h2⟩;rcases h1 with h1 | h1
  ·rw[<-h1];exact FW
  ·exact zg2 (DG R hR) (AN R hR A hA) (DG R' qf) FW h1
 unfold ydq
 cases Dc:A.no with
 | false=>
  simp only[Bool.false_eq_true,if_false,Nat.add_zero];exact List.countP_mono_left himp
 | true=>
  simp only[if_true];refine z2e _ himp (y:=zcw ps A.pred) (List.mem_range.2 (AN R hR A hA)) ?_ ?_
  ·unfold yaj;simp only[List.any_eq_true,Bool.and_eq_true,Bool.or_eq_true,beq_iff_eq];exact⟨R,hR,A,hA,Dc,.inl rfl,.inl rfl⟩
  ·cases hq:yaj ps rs (zcw ps A.pred) (zcw ps A.pred) with
   | false=>rfl
   | true=>
    exfalso
    unfold yaj at hq;simp only[List.any_eq_true,Bool.and_eq_true,Bool.or_eq_true,beq_iff_eq] at hq;obtain⟨R',qf,A',Lx,hn,h1,h2⟩:=hq;have hc:=cP R' qf A' Lx;unfold zy6 at hc;rw[hn,Bool.true_and,Bool.or_eq_false_iff] at hc;obtain⟨mC,nA⟩:=hc;have lq:=AN R hR A hA;have la:=DG R' qf;have lb:=AN R' qf A' Lx;have key:zcw ps A'.pred=zcw ps R'.head.pred\/qX ps rs (zcw ps A'.pred) (zcw ps R'.head.pred)=true:=by
     rcases h2 with h2 | h2 <;> rcases h1 with h1 | h1
     ·exact .inl (h2.trans h1)
     ·exact .inr (by rw[h2];exact h1)
     ·exact .inr (by rw[<-h1];exact h2)
     ·exact .inr (zg2 lb lq la h2 h1)
    rcases key with key | key
    ·have p1:=cU R' qf A' Lx;have p2:=nC R' qf;unfold zcw at key;have:xL ps A'.pred=xL ps R'.head.pred:=by omega
     rw[this] at mC;simp at mC
    ·rw[key] at nA;cases nA
end
section
variable {ms:List yS} {rs:List yT} {n:Nat}
theorem z5u (h:jT n rs ms):∃ Q:List (yX × yS),Q.map (·.1)=rs.flatMap yT.atoms/\Q.map (·.2)=ms/\∀ x∈Q,∃ i,zjq i x.1 x.2:=by
 induction h with
 | nil n=>exact⟨[],rfl,rfl,by simp⟩
 | cons h t ih=>
  obtain⟨q,q1,q2,q3⟩:=h;obtain⟨Q,Q1,Q2,Q3⟩:=ih;refine⟨q++Q,by simp[q1,Q1],by simp[q2,Q2],λ x hx=>?_⟩;rcases List.mem_append.1 hx with hx | hx
  ·exact⟨_,q3 x hx⟩
  ·exact Q3 x hx
theorem ztb:∀ (Q:List (yX × yS)) (ps:P9),(∀ x∈Q,∃ i,zjq i x.1 x.2)->zaq (Q.map (·.2)) ps=(zaw (Q.map (·.1)) ps).1
 | [],ps,_=>rfl
 | x::r,ps,h=>by
  obtain⟨i,hx⟩:=h x List.mem_cons_self;have ih:=λ AQ=>ztb r AQ (λ y hy=>h y (List.mem_cons_of_mem _ hy))
  have e1:x.2.ts.length=x.1.aS.length:=by rw[hx.ts];simp
  simp only[List.map_cons,zaq,zaw];rw[hx.pd,e1,ih,hx.place]
  split <;> rfl
def vO {α:Type}(F:α->Int):List α->Int
 | []=>-1
 | x::r=>if 0<=F x then F x else vO F r
theorem zjy {α:Type}(F:α->Int)(b:List α):∀ (a:List α),vO F (a++b)=if 0<=vO F a then vO F a else vO F b
 | []=>by simp[vO]
 | x::r=>by
  rw[List.cons_append,vO,vO,zjy F b r]
  by_cases h:0<=F x
  ·simp[h]
  ·simp[h]
theorem zpr (h:jT n rs ms)(F:yS->Int)(G:yT->Int):(∀ i R ms',rs[i]?=some R->cK (n+i) R.atoms ms'->vO F ms'=G R)->vO F ms=vO G rs:=by
 induction h with
 | nil n=>intro _;rfl
 | @cons n R rs ms ms' h t ih=>
  intro hG;have h1:=hG 0 R ms rfl h
  have h2:=ih (λ i R' ms'' hi hm=>hG (i+1) R' ms'' (by simpa using hi) (by
   have e:n+(i+1)=n+1+i:=by omega
   rw[e];exact hm))
  rw[zjy,h1,h2,vO]
theorem zs2 {i:Nat}{l:List yX}(h:cK i l ms)(F:yS->Int)(G:yX->Int)(hG:∀ A∈l,∀ M,zjq i A M->F M=G A):vO F ms=vO G l:=by
 obtain⟨q,rfl,rfl,q3⟩:=h
 induction q with
 | nil=>rfl
 | cons x r ih=>
  have h1:=hG x.1 (by simp) x.2 (q3 x List.mem_cons_self);have h2:=ih (λ A hA M hM=>hG A (List.mem_cons_of_mem _ hA) M hM) (λ y hy=>q3 y (List.mem_cons_of_mem _ hy));simp only[List.map_cons,vO,h1,h2]
theorem yeb (v:B8)(l:List zen):zlk v (l.map a8)=l.any (Nj v):=by
 unfold zlk;rw[List.any_map];rfl
theorem z68 (v:B8)(body:List yX):zex v (body.map bl)=zre v body:=by
 unfold zex zre
 induction body with
 | nil=>rfl
 | cons A r ih=>
  rw[List.map_cons,List.filter_cons,List.any_cons,<-ih]
  cases hn:A.no with
  | true=>simp[bl,hn,z5c]
  | false=>simp[bl,hn,z5c,yeb]
theorem zxx (body:List yX)(pl:Nat->Nat):∀ (l:List zen) (k:Nat),(∀ i (h:i<l.length),pl (k+i)=(l[i]).at_)->(match xH (body.map bl) (l.map a8) k with | some i=>(pl i:Int) | none=>-1)=za2 body l
 | [],k,_=>rfl
 | t::r,k,h=>by
  have ih:=zxx body pl r (k+1) (λ i hi=>by
   have:=h (i+1) (by simpa using hi)
   rw[show k+1+i=k+(i+1) by omega,this];simp)
  simp only[List.map_cons,xH,za2];rw[show (a8 t).1=t.isVar from rfl,show (a8 t).2=t.text from rfl,z68]
  by_cases hc:(t.isVar&&!zre t.text body)=true
  ·rw[if_pos hc,if_pos hc];have:=h 0 (by simp);simp only[Nat.add_zero,List.getElem_cons_zero] at this;simp only[this]
  ·rw[if_neg hc,if_neg hc];exact ih
theorem z3m {body:List yX}{A:yX}(hA:A∈body)(hn:A.no=false):za2 body A.aS=-1:=by
 have key:∀ l:List zen,(∀ t∈l,t∈A.aS)->za2 body l=-1:=by
  intro l
  induction l with
  | nil=>intro _;rfl
  | cons t r ih=>
   intro h;rw[za2,if_neg,ih (λ u hu=>h u (List.mem_cons_of_mem _ hu))]
   cases hv:t.isVar with
   | false=>simp
   | true=>
    have hs:zre t.text body=true:=by
     unfold zre;rw[List.any_eq_true];refine⟨A,hA,?_⟩;unfold z5c;rw[hn];simp only[Bool.not_false,Bool.true_and];rw[List.any_eq_true];exact⟨t,h t List.mem_cons_self,by simp[Nj,hv]⟩
    simp[hs]
 exact key A.aS (λ t h=>h)
theorem zfb (body:List yX):∀ l:List yX,(∀ A∈l,A∈body)->zb3 body l=vO (λ A=>za2 body A.aS) l
 | [],_=>rfl
 | A::r,h=>by
  rw[zb3,vO,<-zfb body r (λ B hB=>h B (List.mem_cons_of_mem _ hB))]
  cases hn:A.no with
  | true=>simp
  | false=>
   rw[z3m (h A List.mem_cons_self) hn];simp
theorem zj9:∀ rs:List yT,zbh rs=vO zfc rs
 | []=>rfl
 | R::r=>by rw[zbh,vO,zj9 r]
def yfb (rs:List yH)(M:yS):Int:=match xH (zey rs M.num) M.ts 0 with | some i=>(M.pl i:Int) | none=>-1
theorem zim (rs:List yH):∀ ms:List yS,vM rs ms=vO (yfb rs) ms
 | []=>rfl
 | M::r=>by
  rw[vM,vO,<-zim rs r];unfold yfb
  cases xH (zey rs M.num) M.ts 0 with
  | none=>simp
  | some i=>simp
theorem z07 (h:jT 0 rs ms):vM (rs.map yU) ms=zbh rs:=by
 rw[zim,zj9];refine zpr h _ _ (λ i R ms' hi hm=>?_);rw[Nat.zero_add] at hm;have hb:zey (rs.map yU) i=R.body.map bl:=by
  unfold zey;rw[List.getElem?_map,hi];rfl
 rw[zs2 hm (yfb (rs.map yU)) (λ A=>za2 R.body A.aS) (λ A _ M hM=>?_)]
 ·unfold yT.atoms zfc;rw[vO,zfb R.body R.body (λ A hA=>hA)]
 ·unfold yfb;rw[hM.num,hb,hM.ts];exact zxx R.body M.pl A.aS 0 (λ i hi=>by rw[Nat.zero_add];exact hM.pl i hi)
theorem z24 (nm:B8):∀ (l:P9) (k:Nat),0<=xW nm l k->(l.getD (xW nm l k-k).toNat (nm,0)).1=nm
 | [],k,h=>by simp[xW] at h
 | x::r,k,h=>by
  unfold xW at h ⊢
  by_cases hx:(x.1.toList==nm.toList)=true
  ·rw[if_pos hx];simp;exact yB.1 hx
  ·rw[if_neg hx] at h ⊢;have ih:=z24 nm r (k+1) h;have:=(z7s nm r (k+1) h).1;have e:(xW nm r (k+1)-(k:Int)).toNat=(xW nm r (k+1)-((k+1:Nat):Int)).toNat+1:=(by omega);rw[e];simpa using ih
def ye9 (ps:P9)(i:Nat):B8:=(ps.getD i ({ data:=#[] },0)).1
variable {ps:P9}
theorem zzy {x:B8}(h:0<=xL ps x):ye9 ps (zcw ps x)=x:=by
 have h1:=z24 x ps 0 h;have bP:=zdh h;unfold ye9 zcw;rw[show xW x ps 0=xL ps x from rfl] at h1;simp only[Int.natCast_zero,Int.sub_zero] at h1;rw[List.getD_eq_getElem?_getD,List.getElem?_eq_getElem bP] at h1 ⊢;simpa using h1
variable {a b:B8}
theorem yb1 (ha:0<=xL ps a)(hb:0<=xL ps b):(xL ps a==xL ps b)=(a.toList==b.toList):=by
 rw[Bool.eq_iff_iff]
 constructor
 ·intro h;have h1:xL ps a=xL ps b:=by simpa using h
  have h2:=zzy ha;rw[show zcw ps a=zcw ps b by unfold zcw;rw[h1],zzy hb] at h2;rw[h2];simp
 ·intro h;rw[yB.1 h];simp
theorem zlt {x y:B8}:(x,y)∈xV (rs.map yU)↔∃ R∈rs,∃ A∈R.body,x=R.head.pred/\y=A.pred:=by
 unfold xV zgl
 constructor
 ·intro h;obtain⟨P,hP,h⟩:=List.mem_flatMap.1 h;obtain⟨R,hR,rfl⟩:=List.mem_map.1 hP;obtain⟨L,hL,h⟩:=List.mem_map.1 h;obtain⟨A,hA,rfl⟩:=List.mem_map.1 hL;injection h with h1 h2
  exact⟨R,hR,A,hA,h1.symm,h2.symm⟩
 ·rintro⟨R,hR,A,hA,rfl,rfl⟩;exact List.mem_flatMap.2 ⟨yU R,List.mem_map_of_mem hR,List.mem_map.2 ⟨bl A,List.mem_map_of_mem hA,rfl⟩⟩
theorem zjx {ps:P9}{h:Nat}:∀ (l:List yX) {M:Nat->Nat->Bool} {a b:Nat},zsg ps h l M a b=true->M a b=true\/(a=h/\∃ A∈l,b=zcw ps A.pred)
 | [],M,a,b,hm=>.inl hm
 | A::r,M,a,b,hm=>by
  rcases zjx r hm with h1 | ⟨h1,B,hB,h2⟩
  ·unfold upd at h1;simp at h1;rcases h1 with⟨h1,h2⟩ | h1
   ·exact .inr ⟨h1,A,List.mem_cons_self,h2⟩
   ·exact .inl h1
  ·exact .inr ⟨h1,B,List.mem_cons_of_mem _ hB,h2⟩
theorem zle {ps:P9}:∀ (l:List yT) {M:Nat->Nat->Bool} {a b:Nat},zu8 ps l M a b=true->M a b=true\/∃ R∈l,a=zcw ps R.head.pred/\∃ A∈R.body,b=zcw ps A.pred
 | [],M,a,b,hm=>.inl hm
 | R::r,M,a,b,hm=>by
  rcases zle r hm with h1 | ⟨R',hR,h1⟩
  ·rcases zjx R.body h1 with h2 | ⟨h2,A,hA,h3⟩
   ·exact .inl h2
   ·exact .inr ⟨R,List.mem_cons_self,h2,A,hA,h3⟩
  ·exact .inr ⟨R',List.mem_cons_of_mem _ hR,h1⟩
theorem z2s (P:Nat->Nat->Prop)(hP:∀ a b c,P a b->P b c->P a c)(n:Nat):∀ (d m:Nat) (M:Nat->Nat->Bool),n-m=d->(∀ a b,M a b=true->P a b)->∀ a b,fwM n M m a b=true->P a b:=by
 intro d
 induction d with
 | zero=>
  intro m M hd hM a b h;rw[z2r (by omega)] at h;exact hM a b h
 | succ d ih=>
  intro m M hd hM a b h;rw[yaf (by omega)] at h;refine ih (m+1) _ (by omega) (λ x y km=>?_) a b h;rw[yae n m (n-0) 0 M rfl] at km;simp at km;rcases km with h1 | h1
  ·exact hM x y h1
  ·exact hP x m y (hM x m h1.1.2) (hM m y h1.2)
theorem zv2 {E:List zhh}{c:B8}(h:zdp E a b)(t:zdp E b c):zdp E a c:=by
 induction t with
 | one h1=>exact .next h h1
 | next _ h1 ih=>exact .next ih h1
theorem z7p (bh:zus ps (rs.flatMap yT.atoms))(ha:0<=xL ps a)(hb:0<=xL ps b):ze3 (xV (rs.map yU)) a b=qX ps rs (zcw ps a) (zcw ps b):=by
 have LZ:∀ R∈rs,0<=xL ps R.head.pred:=λ R hR=>bh _ (List.mem_flatMap.2 ⟨R,hR,List.mem_cons_self⟩)
 have jb:∀ R∈rs,∀ A∈R.body,0<=xL ps A.pred:=λ R hR A hA=>bh _ (List.mem_flatMap.2 ⟨R,hR,List.mem_cons_of_mem _ hA⟩)
 rw[Bool.eq_iff_iff];unfold ze3;simp only[decide_eq_true_eq]
 constructor
 ·intro h;have key:∀ y,zdp (xV (rs.map yU)) a y->qX ps rs (zcw ps a) (zcw ps y)=true/\0<=xL ps y:=by
   intro y hy
   induction hy with
   | one h1=>
    obtain⟨R,hR,A,hA,rfl,rfl⟩:=zlt.1 h1;exact⟨NK hR hA,jb R hR A hA⟩
   | next t h1 ih=>
    obtain⟨R,hR,A,hA,rfl,rfl⟩:=zlt.1 h1;exact⟨zg2 (zdh ha) (zdh ih.2) (zdh (jb R hR A hA)) ih.1 (NK hR hA),jb R hR A hA⟩
  exact (key b h).1
 ·intro h;have:=z2s (λ i j=>zdp (xV (rs.map yU)) (ye9 ps i) (ye9 ps j)) (λ _ _ _=>zv2) ps.length ps.length 0 (zu8 ps rs (λ _ _=>false)) rfl (λ i j hij=>?_) _ _ h
  ·rw[zzy ha,zzy hb] at this;exact this
  ·rcases zle rs hij with h1 | ⟨R,hR,rfl,A,hA,rfl⟩
   ·cases h1
   ·simp only[zzy (LZ R hR),zzy (jb R hR A hA)];exact .one (zlt.2 ⟨R,hR,A,hA,rfl,rfl⟩)
theorem zhq (ps:P9)(H:Nat->Nat->Bool)(hd:B8):∀ l:List yX,ze0 ps H hd l=vO (λ A=>if zy6 ps H hd A then (A.lS:Int) else -1) l
 | []=>rfl
 | A::r=>by
  rw[ze0,vO,<-zhq ps H hd r]
  by_cases h:zy6 ps H hd A=true
  ·simp[h]
  ·simp[h]
theorem zjv (ps:P9)(H:Nat->Nat->Bool):∀ rs:List yT,zek ps H rs=vO (λ R=>ze0 ps H R.head.pred R.body) rs
 | []=>rfl
 | R::r=>by rw[zek,vO,zjv ps H r]
theorem zjw (rs:List yH):∀ ms:List yS,j3 rs ms=vO (λ M=>if z6i rs M then (M.start:Int) else -1) ms
 | []=>rfl
 | M::r=>by
  rw[j3,vO,<-zjw rs r]
  by_cases h:z6i rs M=true
  ·simp[h]
  ·simp[h]
theorem z7f (h:jT 0 rs ms)(bh:zus ps (rs.flatMap yT.atoms))(cP:∀ R∈rs,R.head.no=false):j3 (rs.map yU) ms=zek ps (qX ps rs) rs:=by
 rw[zjw,zjv];refine zpr h _ _ (λ i R ms' hi hm=>?_);rw[Nat.zero_add] at hm;have hR:R∈rs:=List.mem_of_getElem? hi;have hh:zj0 (rs.map yU) i=R.head.pred:=by
  unfold zj0;rw[List.getElem?_map,hi];rfl
 have hp:=bh R.head (List.mem_flatMap.2 ⟨R,hR,List.mem_cons_self⟩);rw[zs2 hm _ (λ A=>if zy6 ps (qX ps rs) R.head.pred A then (A.lS:Int) else -1) (λ A hA M hM=>?_)]
 ·unfold yT.atoms;rw[vO,zhq];have:zy6 ps (qX ps rs) R.head.pred R.head=false:=by unfold zy6;rw[cP R hR];rfl
  simp[this]
 ·have ze:=bh A (List.mem_flatMap.2 ⟨R,hR,hA⟩);have e:z6i (rs.map yU) M=zy6 ps (qX ps rs) R.head.pred A:=by
   unfold z6i zy6;rw[hM.num,hh,hM.neg,hM.pd,z7p bh ze hp,yb1 ze hp]
  simp only[e]
  by_cases hc:zy6 ps (qX ps rs) R.head.pred A=true
  ·rw[if_pos hc,if_pos hc];have:A.no=true:=by unfold zy6 at hc;simp at hc;exact hc.1
   rw[hM.start this]
  ·rw[if_neg hc,if_neg hc]
theorem z0q {s:B8}(f:Nat):∀ {p:Nat} {bd:Int} {l:List yT},(∀ R∈l,R.head.no=false)->∀ R∈(zdj s f p bd l).1,R.head.no=false:=by
 induction f with
 | zero=>intro p bd l h;exact h
 | succ f ih=>
  intro p bd l h;rw[zdj]
  split
  ·refine ih (λ R hR=>?_);rcases List.mem_append.1 hR with hR | hR
   ·exact h R hR
   ·simp at hR;subst hR;rfl
  ·exact h
theorem zqk (s:B8):zz8 s=z7 s:=by
 unfold zz8 z7
 by_cases c0:800<s.size
 ·rw[if_pos c0,if_pos c0]
 ·rw[if_neg c0,if_neg c0]
  cases c1:(zJ s).1 with
  | false=>
   have h:=(zh6 s).2 c1;rw[if_pos rfl,h,if_pos (by omega)]
  | true=>
   obtain⟨h1,h2,h3⟩:=(zh6 s).1 c1;rw[if_neg (show ¬ (true=false) by decide),h1,if_neg (show ¬ ((0:Int)<=-1) by decide),h2];obtain⟨Q,Q1,Q2,Q3⟩:=z5u h3;have ea:zaq (zJ s).2.2.2 []=(zF s).1:=by
    unfold zF;rw[<-Q1,<-Q2];exact ztb Q [] Q3
   have eu:=z07 h3;unfold zc7;rw[ea,eu]
   by_cases c2:0<=(zF s).1
   ·simp[c2]
   ·have bh:zus (zF s).2 ((vD s).1.flatMap yT.atoms):=zhj _ c2;have ec:=z7f h3 bh (z0q 31 (by simp));rw[ec];rw[if_neg c2,if_neg c2]
    by_cases c3:0<=zbh (vD s).1
    ·simp[c3]
    ·rw[if_neg c3,if_neg c3]
     by_cases c4:0<=zek (zF s).2 (qX (zF s).2 (vD s).1) (vD s).1
     ·simp[c4]
     ·simp[c4]
end
end Go.Proofs.YtldkpahaocjdpaaGreat
