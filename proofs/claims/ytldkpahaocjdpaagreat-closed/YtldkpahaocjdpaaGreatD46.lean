/-
  Plain: why each thing that follows does; the least reasons are there.
-/
import Derived.Test.YtldkpahaocjdpaaGreatD45
set_option maxHeartbeats 16000000
set_option maxRecDepth 1000000
namespace Go.Proofs.YtldkpahaocjdpaaGreat
section
def yew (rs:List PR)(S:B8->Nat)(K:List (Th × Nat))(p:Th × Nat):Prop:=
 ∃ r∈rs,S r.R.pd=S p.1.p/\∃ e ts,pmL (zK r.bs) ts []=some e/\zT e (vJ r)=p.1/\(∀ t∈ts,∃ q∈K,q.1=t/\(S t.p<S p.1.p\/(S t.p=S p.1.p/\q.2<p.2)))/\∀ x∈xU r.bs,zT e x∉K.map (·.1)
structure zvb (rs:List PR)(S:B8->Nat)(s h:Nat)(K:List (Th × Nat)):Prop where
 nd:(K.map (·.1)).Nodup
 low:∀ p∈K,S p.1.p<s\/(S p.1.p=s/\p.2<h)
 pos:∀ p∈K,1<=p.2
 each:∀ p∈K,yew rs S K p
 closed:∀ r∈rs,S r.R.pd<s->∀ e∈qO K (xU r.bs) (zK r.bs) [],zT e (vJ r)∈K.map (·.1)
variable {t:Th} {K:List (Th × Nat)} {rs:List PR}
theorem yaw (h:zmn rs K t):t∉K.map (·.1):=λ hm=>by
 have:=xB.2 hm;rw[h.1] at this;cases this
variable {s h:Nat} {S:B8->Nat}
theorem z8m (hv:∀ r∈rs,zek S r.R)(cT:∀ r∈rs,r.bs.map (·.1)=r.R.body)(hh:1<=h){L:List (Th × Nat)}(hK:zvb rs S s h K)(dB:(L.map (·.1)).Nodup)(hL:∀ p∈L,p.2=h)(hn:∀ p∈L,zmn (rs.filter (qK S s)) K p.1):zvb rs S s (h+1) (K++L):=by
 have Cc:∀ p∈L,S p.1.p=s:=λ p hp=>by
  obtain⟨_,r,hr,e,_,hf⟩:=hn p hp;have h2:=(List.mem_filter.1 hr).2;unfold qK at h2;rw[<-hf]
  show S r.R.pd=s
  simpa using h2
 have ak:∀ t∈(K++L).map (·.1),S t.p<s->t∈K.map (·.1):=λ t ht hs=>by
  rw[List.map_append] at ht;rcases List.mem_append.1 ht with ht | ht
  ·exact ht
  ·obtain⟨p,hp,rfl⟩:=List.mem_map.1 ht;have:=Cc p hp;omega
 have bC:∀ q∈K,q∈K++L:=λ q hq=>List.mem_append_left _ hq
 refine⟨?_,λ p hp=>?_,λ p hp=>?_,λ p hp=>?_,λ r hr hs e he=>?_⟩
 ·rw[List.map_append];refine List.nodup_append.2 ⟨hK.nd,dB,λ a ha b hb e=>?_⟩;subst e;obtain⟨p,hp,rfl⟩:=List.mem_map.1 hb;exact yaw (hn p hp) ha
 ·rcases List.mem_append.1 hp with hp | hp
  ·rcases hK.low p hp with h1 | ⟨h1,h2⟩
   ·exact .inl h1
   ·exact .inr ⟨h1,by omega⟩
  ·exact .inr ⟨Cc p hp,by rw[hL p hp];omega⟩
 ·rcases List.mem_append.1 hp with hp | hp
  ·exact hK.pos p hp
  ·rw[hL p hp];exact hh
 ·rcases List.mem_append.1 hp with hp | hp
  ·obtain⟨r,hr,hs,e,ts,h1,h2,h3,h4⟩:=hK.each p hp;refine⟨r,hr,hs,e,ts,h1,h2,λ t ht=>let ⟨q,hq,h5⟩:=h3 t ht;⟨q,bC q hq,h5⟩,λ x hx hm=>h4 x hx (ak _ hm ?_)⟩;have:=zez (hv r hr) (cT r hr) x hx
   show S x.p<s
   rcases hK.low p hp with h1 | ⟨h1,_⟩ <;> omega
  ·obtain⟨_,r,hr,e,he,hf⟩:=hn p hp;have ez:=(List.mem_filter.1 hr).1;have gj:=Cc p hp;have IN:S r.R.pd=S p.1.p:=(by rw[<-hf];rfl);obtain⟨⟨ts,h1,h2⟩,h3⟩:=ze7.1 he;refine⟨r,ez,IN,e,ts,h1,hf,λ t ht=>?_,λ x hx hm=>h3 x hx (ak _ hm ?_)⟩
   ·obtain⟨q,hq,rfl⟩:=List.mem_map.1 (h2 t ht);refine⟨q,bC q hq,rfl,?_⟩;rcases hK.low q hq with h4 | ⟨h4,h5⟩
    ·exact .inl (by omega)
    ·exact .inr ⟨by omega,by rw[hL p hp];exact h5⟩
   ·have:=zez (hv r ez) (cT r ez) x hx
    show S x.p<s
    omega
 ·obtain⟨⟨ts,h1,h2⟩,h3⟩:=ze7.1 he;rw[List.map_append];refine List.mem_append_left _ (hK.closed r hr hs e (ze7.2 ⟨⟨ts,h1,λ t ht=>ak t (h2 t ht) ?_⟩,λ x hx hm=>h3 x hx ?_⟩))
  ·obtain⟨a,ha,e⟩:=zfr h1 t ht;have:=zla (hv r hr) (cT r hr) a ha;rw[<-e];omega
  ·rw[List.map_append];exact List.mem_append_left _ hm
theorem ydh (hK:zvb rs S s h K)(hn:∀ t,¬ zmn (rs.filter (qK S s)) K t):zvb rs S (s+1) 1 K:=by
 refine⟨hK.nd,λ p hp=>.inl ?_,hK.pos,hK.each,λ r hr hs e he=>?_⟩
 ·rcases hK.low p hp with h1 | ⟨h1,_⟩ <;> omega
 ·by_cases h1:S r.R.pd<s
  ·exact hK.closed r hr h1 e he
  ·cases hl:z7 K (zT e (vJ r)) with
   | some n=>exact xB.1 (by rw[hl];rfl)
   | none=>exact absurd ⟨hl,r,List.mem_filter.2 ⟨hr,by unfold qK;simp;omega⟩,e,he,rfl⟩ (hn (zT e (vJ r)))
variable {r:Option (List (Th × Nat))} {limit:Nat}
theorem z0p (hv:∀ r∈rs,zek S r.R)(cT:∀ r∈rs,r.bs.map (·.1)=r.R.body)(hc:za0 (rs.filter (qK S s)) limit h K r):1<=h->zvb rs S s h K->∀ K',r=some K'->zvb rs S (s+1) 1 K':=by
 induction hc with
 | fk _ _ _ _=>intro _ _ K' e;cases e
 | done hn=>
  intro _ hb K' e;obtain rfl:=Option.some.inj e;exact ydh hb hn
 | more _ dB hh hL _ _ ih=>exact λ h1 hb=>ih (by omega) (z8m hv cT h1 hb dB hh (λ p hp=>(hL p.1).1 ⟨p.2,hp⟩))
theorem z3y (hv:∀ r∈rs,zek S r.R)(cT:∀ r∈rs,r.bs.map (·.1)=r.R.body){count:Nat}(hc:qD rs S limit count s K r):zvb rs S s 1 K->∀ K',r=some K'->∃ m,count<=m/\zvb rs S m 1 K':=by
 induction hc with
 | ends h=>
  intro hb K' e;obtain rfl:=Option.some.inj e;exact⟨_,h,hb⟩
 | fK _ _=>intro _ K' e;cases e
 | next _ hc _ ih=>exact λ hb=>ih (z0p hv cT hc L9 hb _ rfl)
theorem ybv (rs:List PR)(S:B8->Nat):zvb rs S 0 1 []:=⟨List.nodup_nil,by simp,by simp,by simp,λ _ _ h=>by omega⟩
theorem zpt {p q:Pl}:∀ (l:List Pl) (i k:Nat) (h:k<l.length),l[k]=q->zbi q p=true->(q.t,i+k)∈zct p l i
 | x::r,i,0,_,e,hu=>by
  have e:x=q:=e;subst e;rw[zct,if_pos hu];exact List.mem_cons_self
 | x::r,i,k+1,h,e,hu=>by
  have ih:=zpt (p:=p) r (i+1) k (by simpa using h) (by simpa using e) hu;rw[show i+1+k=i+(k+1) by omega] at ih;rw[zct]
  split
  ·exact List.mem_cons_of_mem _ ih
  ·exact ih
theorem ze9 {p:Pl}{t:Th}{n:Nat}:∀ (l:List Pl) (i:Nat),(t,n)∈zct p l i->∃ (k:Nat) (h:k<l.length),n=i+k/\l[k].t=t/\zbi l[k] p=true
 | [],i,h=>by cases h
 | x::r,i,h=>by
  rw[zct] at h
  split at h
  ·rename_i hu;rcases List.mem_cons.1 h with e | h
   ·injection e with e1 e2
    exact⟨0,by simp,by omega,e1.symm,hu⟩
   ·obtain⟨k,hk,h1,h2,h3⟩:=ze9 r (i+1) h;exact⟨k+1,by simpa using hk,by omega,by simpa using h2,by simpa using h3⟩
  ·obtain⟨k,hk,h1,h2,h3⟩:=ze9 r (i+1) h;exact⟨k+1,by simpa using hk,by omega,by simpa using h2,by simpa using h3⟩
theorem zdh {p q:Pl}:zbi p q=true↔p.s<q.s\/(p.s=q.s/\p.h<q.h):=by unfold zbi;simp
theorem zrg:∀ (l:List (List Nat)),l≠[]->∃ x∈l,∀ y∈l,zim y x=false
 | [x],_=>⟨x,List.mem_singleton.2 rfl,λ y hy=>by rw[List.mem_singleton.1 hy];exact MM x⟩
 | x::y::r,_=>by
  obtain⟨z,hz,h⟩:=zrg (y::r) (by simp)
  by_cases hx:zim x z=true
  ·refine⟨x,List.mem_cons_self,λ u hu=>?_⟩;rcases List.mem_cons.1 hu with rfl | hu
   ·exact MM _
   ·cases hux:zim u x with
    | false=>rfl
    | true=>have:=h u hu;rw[zin hux hx] at this;cases this
  ·refine⟨z,List.mem_cons_of_mem _ hz,λ u hu=>?_⟩;rcases List.mem_cons.1 hu with rfl | hu
   ·simpa using hx
   ·exact h u hu
theorem z6b {P:Nat->Prop}{n:Nat}(h:∃ j,j<n/\P j):∃ j,j<n/\P j/\∀ i,i<j->¬ P i:=by
 obtain⟨j,hj,hp⟩:=h
 induction j using Nat.strongRecOn with
 | _ j ih=>
  by_cases hx:∃ i,i<j/\P i
  ·obtain⟨i,hi,qm⟩:=hx;exact ih i hi (by omega) qm
  ·exact⟨j,hj,hp,λ i hi qm=>hx ⟨i,hi,qm⟩⟩
variable {row:List Nat} {rp:List PR}
theorem zx6 {N:List (Th × Nat)}{r:PR}(hr:r∈rp)(h:row∈zar N r t):∃ i x,lT N rp t i x:=by
 obtain⟨j,hj,Jv⟩:=List.getElem_of_mem hr;obtain⟨i,hi,hp,aX⟩:=z6b (P:=λ i=>∃ h:i<rp.length,zar N rp[i] t≠[]) ⟨j,hj,hj,λ e=>by rw[Jv] at e;rw[e] at h;cases h⟩;obtain⟨h1,h2⟩:=hp;obtain⟨x,hx,uF⟩:=zrg _ h2;exact⟨i,x,λ k hk gW=>Classical.byContradiction λ bG=>aX k gW ⟨hk,bG⟩,h1,hx,uF⟩
variable {i:Nat} {O:List Pl} {ps:P9}
theorem z3e (hO:∀ q∈O,eE ps q.t)(ca:O.Pairwise λ p q=>vK p q=true)(hi:i<O.length){r:PR}(hg:jZ ps r)(h:row∈zar (zct O[i] O 0) r O[i].t):row.length<=3/\∀ x∈row,x<i:=by
 have hN:∀ p∈zct O[i] O 0,eE ps p.1:=λ p hp=>by
  obtain⟨k,hk,_,h2,_⟩:=ze9 O 0 (show (p.1,p.2)∈_ from hp);rw[<-h2];exact hO _ (List.getElem_mem hk)
 obtain⟨e,he,_,rfl⟩:=(zi1 hN hg (hO _ (List.getElem_mem hi)) row).1 h;have hp:e∈zQ (zct O[i] O 0) (zK r.bs) []:=(List.mem_filter.1 he).1;obtain⟨_,hf⟩:=vS (zK r.bs) [] e (λ a ha p hp=>zk4 (hg.pos a ha) (hN p hp)) hp;refine⟨?_,λ x hx=>?_⟩
 ·unfold jY;rw[List.length_map];exact Nat.le_trans (zhy r.bs) hg.l3
 ·unfold jY at hx;obtain⟨a,ha,rfl⟩:=List.mem_map.1 hx;obtain⟨_,n,hn⟩:=hf a ha;have hs:=(zdr (zct O[i] O 0) (zT e a)).2 ⟨n,hn⟩;obtain⟨m,hm⟩:=Option.isSome_iff_exists.1 hs;rw[hm];obtain⟨k,hk,h1,_,h3⟩:=ze9 O 0 (vP hm);simp only[Option.getD_some];rcases Nat.lt_trichotomy k i with h4 | h4 | h4
  ·omega
  ·exfalso
   subst h4;rw[zdh] at h3;omega
  ·exfalso
   have:=List.pairwise_iff_getElem.1 ca i k hi hk h4;rw[zav] at this;rw[zdh] at h3;omega
theorem z4p (hR:∀ r∈rp,jZ ps r)(hT:∀ p∈K,eE ps p.1)(hK:zvb rp S s h K)(hO:O.Perm (K.map (zh9 S)))(hi:i<O.length):∃ j x,lT (zct O[i] O 0) rp O[i].t j x:=by
 have bC:O[i]∈K.map (zh9 S):=hO.mem_iff.1 (List.getElem_mem hi);obtain⟨p,hp,Dh⟩:=List.mem_map.1 bC;have r9:∀ q∈O,eE ps q.t:=λ q hq=>by
  obtain⟨y,hy,rfl⟩:=List.mem_map.1 (hO.mem_iff.1 hq);exact hT y hy
 have hN:∀ p∈zct O[i] O 0,eE ps p.1:=λ p hp=>by
  obtain⟨k,hk,_,h2,_⟩:=ze9 O 0 (show (p.1,p.2)∈_ from hp);rw[<-h2];exact r9 _ (List.getElem_mem hk)
 obtain⟨r,hr,hs,e,ts,h1,h2,h3,h4⟩:=hK.each p hp;have ht:O[i].t=p.1:=by rw[<-Dh];rfl
 have zb:O[i].s=S p.1.p:=by rw[<-Dh];rfl
 have JS:O[i].h=p.2:=by rw[<-Dh];rfl
 refine zx6 hr (row:=jY (zct O[i] O 0) (zK r.bs) e) ((zi1 hN (hR r hr) (r9 _ (List.getElem_mem hi)) _).2 ⟨e,ze7.2 ⟨⟨ts,h1,λ t ht=>?_⟩,λ x hx hm=>h4 x hx ?_⟩,by rw[h2,ht],rfl⟩)
 ·obtain⟨q,hq,rfl,hu⟩:=h3 t ht;have J1:zh9 S q∈O:=hO.mem_iff.2 (List.mem_map_of_mem hq);obtain⟨k,hk,lX⟩:=List.getElem_of_mem J1;have:=zpt (p:=O[i]) O 0 k hk lX (zdh.2 (by rw[zb,JS];exact hu));exact List.mem_map.2 ⟨_,this,rfl⟩
 ·obtain⟨y,hy,e1⟩:=List.mem_map.1 hm;obtain⟨k,hk,_,h6,_⟩:=ze9 O 0 (show (y.1,y.2)∈_ from hy);obtain⟨z,hz,e2⟩:=List.mem_map.1 (hO.mem_iff.1 (List.getElem_mem hk));refine List.mem_map.2 ⟨z,hz,?_⟩;rw[<-e1,<-h6,<-e2];rfl
theorem ybu (hR:∀ r∈rp,jZ ps r)(hT:∀ p∈K,eE ps p.1)(hK:zvb rp S s h K)(hO:O.Perm (K.map (zh9 S)))(ca:O.Pairwise λ p q=>vK p q=true):∃ rea,zki ps S rp K O rea:=by
 have r9:∀ q∈O,eE ps q.t:=λ q hq=>by
  obtain⟨y,hy,rfl⟩:=List.mem_map.1 (hO.mem_iff.1 hq);exact hT y hy
 have all:∀ i,∃ x:Nat × List Nat,∀ h:i<O.length,lT (zct O[i] O 0) rp O[i].t x.1 x.2:=λ i=>by
  by_cases hi:i<O.length
  ·obtain⟨j,x,hx⟩:=z4p hR hT hK hO hi;exact⟨(j,x),λ _=>hx⟩
  ·exact⟨(0,[]),λ h=>absurd h hi⟩
 refine⟨λ i=>(all i).choose,hO,λ i h=>(all i).choose_spec h,λ i h=>?_,λ i h=>?_⟩
 ·have hl:=(all i).choose_spec h;exact (z3e r9 ca h (hR _ (List.getElem_mem hl.lt)) hl.mem).1
 ·have hl:=(all i).choose_spec h;exact (z3e r9 ca h (hR _ (List.getElem_mem hl.lt)) hl.mem).2
end
section
theorem zww {T:List Th}{rk:Nat->Nat}{th:Nat->Th}:∀ (pos:List yY) (xs:List Nat) (e0:zX),pos.length=xs.length->(∀ x∈xs,T[rk x]?=some (th x))->zdd pos (xs.map rk) T e0=pmL pos (xs.map th) e0
 | [],[],e0,_,_=>rfl
 | [],_::_,e0,h,_=>by simp at h
 | _::_,[],e0,h,_=>by simp at h
 | a::r,x::q,e0,h,hT=>by
  rw[List.map_cons,List.map_cons,zde,pmL];simp only[hT x List.mem_cons_self]
  cases zV e0 a (th x) with
  | none=>rfl
  | some e'=>exact zww r q e' (by simpa using h) (λ y hy=>hT y (List.mem_cons_of_mem _ hy))
theorem z9c {x:zX}:∀ (pos:List yY) (e:zX),Ext e x->(∀ a∈pos,Dom x a)->∃ e',pmL pos (pos.map (zT x)) e=some e'/\Ext e' x
 | [],e,h,_=>⟨e,rfl,h⟩
 | a::r,e,h,hd=>by
  obtain⟨e1,h1,h2⟩:=zlv h (hd a List.mem_cons_self);obtain⟨e2,h3,h4⟩:=z9c r e1 h2 (λ b hb=>hd b (List.mem_cons_of_mem _ hb));exact⟨e2,by rw[List.map_cons,pmL,h1];exact h3,h4⟩
structure z9u (rp:List PR)(S:B8->Nat)(K:List (Th × Nat))(O:List Pl)(j:Nat)(x:Nat × List Nat)(r:PR)(e:zX):Prop where
 rule:rp[x.1]?=some r
 len:(zK r.bs).length=x.2.length
 pm:pmL (zK r.bs) (x.2.map λ i=>(O[i]?.getD default).t) []=some e
 hd:zT e (vJ r)=(O[j]?.getD default).t
 str:∀ i∈x.2,(O[i]?.getD default).s<=(O[j]?.getD default).s
 neg:∀ y∈xU r.bs,zT e y∉K.map (·.1)/\S y.p<(O[j]?.getD default).s
variable {rea:Nat->Nat × List Nat} {O:List Pl} {K:List (Th × Nat)} {S:B8->Nat} {rp:List PR} {ps:P9}
theorem z6x (hv:∀ r∈rp,zek S r.R)(cT:∀ r∈rp,r.bs.map (·.1)=r.R.body)(hR:∀ r∈rp,jZ ps r)(hT:∀ p∈K,eE ps p.1)(hA:zki ps S rp K O rea){j:Nat}(hj:j<O.length):∃ r e,z9u rp S K O j (rea j) r e:=by
 have r9:∀ q∈O,eE ps q.t:=λ q hq=>by
  obtain⟨y,hy,rfl⟩:=List.mem_map.1 (hA.perm.mem_iff.1 hq);exact hT y hy
 have hN:∀ p∈zct O[j] O 0,eE ps p.1:=λ p hp=>by
  obtain⟨k,hk,_,h2,_⟩:=ze9 O 0 (show (p.1,p.2)∈_ from hp);rw[<-h2];exact r9 _ (List.getElem_mem hk)
 have hL:=hA.least j hj;have hr:=List.getElem_mem hL.lt;have hg:=hR _ hr;have Cf:O[j]?.getD default=O[j]:=by rw[List.getElem?_eq_getElem hj];rfl
 obtain⟨e0,he,nC,aE⟩:=(zi1 hN hg (r9 _ (List.getElem_mem hj)) _).1 hL.mem;have bP:=hL.lt;obtain⟨r,Ep⟩:∃ r,r=rp[(rea j).1]'(bP):=⟨_,rfl⟩;rw[<-Ep] at hr hg he nC aE;have lg:e0∈zQ (zct O[j] O 0) (zK r.bs) []:=(List.mem_filter.1 he).1;obtain⟨_,hf⟩:=vS (zK r.bs) [] e0 (λ a ha p hp=>zk4 (hg.pos a ha) (hN p hp)) lg;have pz:∀ a∈zK r.bs,∃ (i:Nat) (h:i<O.length),(z7 (zct O[j] O 0) (zT e0 a)).getD 0=i/\O[i].t=zT e0 a/\zbi O[i] O[j]=true:=λ a ha=>by
  obtain⟨_,n,hn⟩:=hf a ha;have hs:=(zdr (zct O[j] O 0) (zT e0 a)).2 ⟨n,hn⟩;obtain⟨m,hm⟩:=Option.isSome_iff_exists.1 hs;obtain⟨i,hi,h1,h2,h3⟩:=ze9 O 0 (vP hm);exact⟨i,hi,by rw[hm];simpa using h1,h2,h3⟩
 have cA:(rea j).2.map (λ i=>(O[i]?.getD default).t)=(zK r.bs).map (zT e0):=by
  rw[<-aE];unfold jY;rw[List.map_map];refine List.map_congr_left λ a ha=>?_
  obtain⟨i,hi,h1,h2,_⟩:=pz a ha;simp only[Function.comp_def,h1,List.getElem?_eq_getElem hi,Option.getD_some,h2]
 obtain⟨e,h1,h2⟩:=z9c (zK r.bs) [] (Ext.nil _) (λ a ha=>(hf a ha).1);have yx:∀ a∈zK r.bs,Dom e a:=λ a ha=>by
  have hm:e∈zQ (((zK r.bs).map (zT e0)).map λ t=>(t,0)) (zK r.bs) []:=zpo.2 ⟨_,h1,λ t ht=>by rw[List.map_map];simpa[Function.comp_def] using ht⟩
  exact ((vS (zK r.bs) [] e (λ b hb p hp=>by
   obtain⟨t,ht,rfl⟩:=List.mem_map.1 hp;obtain⟨c,hc,rfl⟩:=List.mem_map.1 ht;obtain⟨_,n,hn⟩:=hf c hc
   exact zk4 (hg.pos b hb) (hN (zT e0 c,n) hn)) hm).2 a ha).1
 have jh:(vJ r).p=O[j].t.p:=by rw[<-nC];rfl
 have zb:S O[j].t.p=O[j].s:=by
  obtain⟨y,hy,he⟩:=List.mem_map.1 (hA.perm.mem_iff.1 (List.getElem_mem hj));rw[<-he];rfl
 refine⟨r,e,by rw[Ep];exact List.getElem?_eq_getElem bP,by rw[<-aE];unfold jY;rw[List.length_map],by rw[cA];exact h1,?_,λ i hi=>?_,λ y hy=>?_⟩
 ·rw[Cf,<-nC];exact (h2.fill (hg.sE yx)).symm
 ·rw[<-aE] at hi;unfold jY at hi;obtain⟨a,ha,rfl⟩:=List.mem_map.1 hi;obtain⟨i,hi,h3,_,h4⟩:=pz a ha;rw[h3,List.getElem?_eq_getElem hi,Cf];rw[zdh] at h4;simp only[Option.getD_some];omega
 ·have IQ:S y.p<O[j].s:=by
   have:=zez (hv r hr) (cT r hr) y hy;rw[<-zb,<-jh];exact this
  rw[Cf];refine⟨λ hm=>?_,IQ⟩;have Jj:zT e y=zT e0 y:=(h2.fill (hg.iX yx y hy)).symm;rw[Jj] at hm;obtain⟨q,hq,FZ⟩:=List.mem_map.1 hm;obtain⟨i,hi,CE⟩:=List.getElem_of_mem (hA.perm.mem_iff.2 (List.mem_map_of_mem (f:=zh9 S) hq));have hu:zbi (zh9 S q) O[j]=true:=zdh.2 (.inl (by show S q.1.1<O[j].s;rw[FZ];exact IQ));have:=zpt (p:=O[j]) O 0 i hi CE hu;refine (ze7.1 he).2 y hy (List.mem_map.2 ⟨_,this,?_⟩);exact FZ
theorem zsr {rp:List PR}{S:B8->Nat}{K:List (Th × Nat)}{O:List Pl}{rea:Nat->Nat × List Nat}{rk:Nat->Nat}{R:Nat->PR}{E:Nat->zX}:∀ (post pre:List Nat),(∀ j∈post,z9u rp S K O j (rea j) (R j) (E j))->(∀ (a b:List Nat) (j:Nat),pre++post=a++j::b->j∈post->∀ x∈(rea j).2,a[rk x]?=some x)->zaj rp (post.map λ j=>((rea j).1,(rea j).2.map rk)) (pre.map λ j=>⟨R j,E j,(O[j]?.getD default).t⟩)=some ((pre++post).map λ j=>⟨R j,E j,(O[j]?.getD default).t⟩)
 | [],pre,_,_=>by rw[List.append_nil];rfl
 | j::post,pre,hN,qn=>by
  have h:=hN j List.mem_cons_self;rw[List.map_cons,zaj];simp only[h.rule];have hT:∀ x∈(rea j).2,((pre.map λ j=>(⟨R j,E j,(O[j]?.getD default).t⟩:yL)).map (·.t))[rk x]?=some (O[x]?.getD default).t:=λ x hx=>by
   have:=qn pre post j rfl List.mem_cons_self x hx;rw[List.map_map,List.getElem?_map,this];rfl
  rw[zww (zK (R j).bs) (rea j).2 [] h.len hT,h.pm];simp only[h.hd];have ih:=zsr post (pre++[j]) (λ i hi=>hN i (List.mem_cons_of_mem _ hi)) (λ a b i he hi x hx=>qn a b i (by rw[<-he,List.append_assoc];rfl) (List.mem_cons_of_mem _ hi) x hx);rw[List.map_append] at ih;rw[List.append_assoc] at ih;exact ih
theorem z29 {pos:List Nat}:∀ (ns:List (Nat × List Nat)),(∀ x∈ns,pos[x.1]?=some x.2.length)->rdP pos ns.length (ns.flatMap ry)=some ns
 | [],_=>rfl
 | x::r,h=>by
  have h1:=h x List.mem_cons_self;have ih:=z29 r (λ y hy=>h y (List.mem_cons_of_mem _ hy));rw[List.length_cons,List.flatMap_cons]
  show rdP pos (r.length+1) (x.1::x.2++r.flatMap ry)=_
  rw[List.cons_append,rdP];simp only[h1];rw[if_neg (by rw[List.length_append];omega),List.drop_left' rfl,ih,List.take_left' rfl]
theorem z4q (hv:∀ r∈rp,zek S r.R)(cT:∀ r∈rp,r.bs.map (·.1)=r.R.body)(hR:∀ r∈rp,jZ ps r){m:Nat}(hm:jS ps S m){s:Nat}(eX:m<=s)(hK:zvb rp S s 1 K)(hT:∀ p∈K,eE ps p.1)(jv:K.length<=50)(hA:zki ps S rp K O rea)(t:Th):∃ st,gI rp S m (zdi ps S K t rea O) (xP ps S K t) st/\(∀ u∈st.map (·.t),u∈K.map (·.1))/\(t∈K.map (·.1)->t∈st.map (·.t)):=by
 have E7:O.length=K.length:=by rw[hA.perm.length_eq,List.length_map]
 have Ce:∀ i (h:i<O.length),O[i].t∈K.map (·.1)/\O[i].s=S O[i].t.p:=λ i h=>by
  obtain⟨y,hy,he⟩:=List.mem_map.1 (hA.perm.mem_iff.1 (List.getElem_mem h));rw[<-he];exact⟨List.mem_map_of_mem hy,rfl⟩
 have EV:∀ u∈K.map (·.1),∃ (i:Nat) (h:i<O.length),O[i].t=u:=λ u hu=>by
  obtain⟨y,hy,rfl⟩:=List.mem_map.1 hu;obtain⟨i,hi,he⟩:=List.getElem_of_mem (hA.perm.mem_iff.2 (List.mem_map_of_mem (f:=zh9 S) hy));exact⟨i,hi,by rw[he];rfl⟩
 have dB:(O.map (·.t)).Nodup:=by
  have h1:(O.map (·.t)).Perm ((K.map (zh9 S)).map (·.t)):=hA.perm.map _;rw[List.map_map] at h1;exact h1.nodup_iff.2 hK.nd
 have gT:∀ {i:Nat} (h:i<O.length),O[i]?.getD default=O[i]:=λ h=>by rw[List.getElem?_eq_getElem h];rfl
 have ad:∀ j,∃ re:PR × zX,j<O.length->z9u rp S K O j (rea j) re.1 re.2:=λ j=>by
  by_cases hj:j<O.length
  ·obtain⟨r,e,h⟩:=z6x hv cT hR hT hA hj;exact⟨(r,e),λ _=>h⟩
  ·exact⟨(⟨⟨{ data:=#[] },[],[]⟩,.bool false,[],.bool false⟩,[]),λ h=>absurd h hj⟩
 obtain⟨k,hk⟩:∃ k,k=xP ps S K t:=⟨_,rfl⟩;obtain⟨B,hB⟩:∃ B,B=bu O k t rea 0:=⟨_,rfl⟩;obtain⟨F,hF⟩:∃ F,F=(List.range O.length).filter B:=⟨_,rfl⟩;have nw:∀ j,j∈F↔j<O.length/\B j=true:=λ j=>by rw[hF,List.mem_filter,List.mem_range]
 have ES:F.length<=50:=by
  rw[hF];have:=List.length_filter_le B (List.range O.length);rw[List.length_range] at this;omega
 have aI:∀ j,j<O.length->(O[j]?.getD default).s<k\/(O[j]?.getD default).t=t->j∈F:=λ j hj h=>(nw j).2 ⟨hj,by
  rw[hB];refine z6u hj ?_;unfold z6z
  rcases h with h | h <;> simp[h]⟩
 have Lz:∀ j∈F,∀ x∈(rea j).2,x∈F:=λ j hj x hx=>by
  obtain⟨h1,h2⟩:=(nw j).1 hj;rw[hB] at h2;have:=hA.low j h1 x hx;exact (nw x).2 ⟨by omega,by rw[hB];exact NC hA.low h1 h2 x hx⟩
 have Dm:∀ j∈F,(O[j]?.getD default).s<=k:=λ j hj=>by
  obtain⟨h1,h2⟩:=(nw j).1 hj;rw[hB] at h2;refine (zv9 (Q:=λ j=>(O[j]?.getD default).s<=k) hA.low (λ i hi ho=>?_) (λ i hi hq x hx=>?_) O.length 0 (Nat.zero_add _) j h2).1
  ·unfold z6z at ho;simp only[Bool.or_eq_true,decide_eq_true_eq] at ho;rcases ho with ho | ho
   ·exact Nat.le_of_lt ho
   ·rw[gT hi] at ho ⊢;obtain⟨h3,h4⟩:=Ce i hi;rw[h4,ho,hk];rw[ho] at h3;unfold xP;have hl:=xB.2 h3;obtain⟨y,hy,Kq⟩:=List.mem_map.1 h3;have hn:(zZ ps t.1).isSome=true:=(by have:=(hT y hy).num;rw[Kq] at this;rw[this];rfl);rw[if_pos hn,if_pos hl];exact Nat.le_refl _
  ·exact Nat.le_trans (((ad i).choose_spec hi).str x hx) hq
 have uj:gB ps S K t rea O=F.map λ j=>((rea j).1,(rea j).2.map (zfa B)):=by rw[z00 hA.low,hF,hB,hk]
 have mf:=zsr (rp:=rp) (S:=S) (K:=K) (O:=O) (rea:=rea) (rk:=zfa B) (R:=λ j=>(ad j).choose.1) (E:=λ j=>(ad j).choose.2) F [] (λ j hj=>(ad j).choose_spec ((nw j).1 hj).1) (λ a b j he hj x hx=>by
  have mg:=Lz j hj x hx;obtain⟨mh,qp⟩:=(nw x).1 mg;have hr:=ya9 B mh qp;rw[<-hF] at hr;rw[List.nil_append] at he;have hxj:=hA.low j ((nw j).1 hj).1 x hx;have mO:F.Pairwise (·<·):=by rw[hF];exact List.pairwise_lt_range.filter _
  have bP:zfa B x<a.length:=by
   rcases Nat.lt_trichotomy (zfa B x) a.length with h | h | h
   ·exact h
   ·exfalso
    rw[he,h,List.getElem?_append_right L9,Nat.sub_self] at hr;have:j=x:=Option.some.inj hr;omega
   ·exfalso
    obtain⟨h1,h2⟩:=List.getElem?_eq_some_iff.1 hr;have h3:a.length<F.length:=(by omega);have h4:=List.pairwise_iff_getElem.1 mO a.length (zfa B x) h3 h1 h;have h5:F[a.length]=j:=(by simp only[he];rw[List.getElem_append_right L9];simp);omega
  rw[he,List.getElem?_append_left bP] at hr
  exact hr)
 rw[List.nil_append] at mf;obtain⟨st,dj⟩:∃ st,st=F.map λ j=>(⟨(ad j).choose.1,(ad j).choose.2,(O[j]?.getD default).t⟩:yL):=⟨_,rfl⟩
 rw[<-dj] at mf;have rj:st.map (·.t)=F.map λ j=>(O[j]?.getD default).t:=by rw[dj,List.map_map];rfl
 have uw:∀ u∈st.map (·.t),u∈K.map (·.1):=λ u hu=>by
  rw[rj] at hu;obtain⟨j,hj,rfl⟩:=List.mem_map.1 hu;rw[gT ((nw j).1 hj).1];exact (Ce j ((nw j).1 hj).1).1
 have Lm:∀ u∈K.map (·.1),S u.p<k->u∈st.map (·.t):=λ u hu hs=>by
  obtain⟨i,hi,rfl⟩:=EV u hu;rw[rj];refine List.mem_map.2 ⟨i,aI i hi (.inl ?_),by rw[gT hi]⟩;rw[gT hi,(Ce i hi).2];exact hs
 refine⟨st,⟨gB ps S K t rea O,?_,?_,?_,?_,?_,?_⟩,uw,λ ht=>?_⟩
 ·unfold zdi zgq zjz;have hl:(gB ps S K t rea O).length=F.length:=by rw[uj,List.length_map]
  simp only;rw[if_neg (by omega),z29,Option.map_some];intro x hx;rw[uj] at hx;obtain⟨j,hj,rfl⟩:=List.mem_map.1 hx;have h:=(ad j).choose_spec ((nw j).1 hj).1;unfold zix;rw[List.getElem?_map,h.rule,Option.map_some,List.length_map,h.len]
 ·unfold xP
  split
  ·rename_i hn;have:=hm.1 t.1 hn
   split <;> omega
  ·exact Nat.zero_le _
 ·rw[uj];exact mf
 ·rw[rj];have IU:F.Nodup:=by rw[hF];exact List.nodup_range.filter _
  refine List.pairwise_map.2 (IU.imp_of_mem λ {i j} hi hj bG e=>bG ?_);have h1:=((nw i).1 hi).1;have h2:=((nw j).1 hj).1;rw[gT h1,gT h2] at e;have hp:=List.pairwise_iff_getElem.1 (List.pairwise_map.1 dB);rcases Nat.lt_trichotomy i j with h | h | h
  ·exact absurd e (hp i j h1 h2 h)
  ·exact h
  ·exact absurd e.symm (hp j i h2 h1 h)
 ·intro x hx a ha;rw[dj] at hx;obtain⟨j,hj,rfl⟩:=List.mem_map.1 hx;have h:=((ad j).choose_spec ((nw j).1 hj).1).neg a ha;have h2:=Dm j hj;rw[<-hk];exact⟨λ hm=>h.1 (uw _ hm),by omega⟩
 ·intro r hr hs e he;rw[<-hk] at hs;obtain⟨⟨ts,h1,h2⟩,h3⟩:=ze7.1 he;rw[jE] at h2 h3
  have ak:=hK.closed r hr (by
   have hn:(zZ ps r.R.pd).isSome=true:=(by rw[show r.R.pd=(vJ r).p from rfl,(hR r hr).hd.num];rfl);have:=hm.1 r.R.pd hn
   omega) e (ze7.2 ⟨⟨ts,h1,λ u hu=>uw u (h2 u hu)⟩,λ x hx hm=>h3 x hx (Lm _ hm (by
    have:=zez (hv r hr) (cT r hr) x hx
    show S x.p<k
    omega))⟩)
  exact Lm _ ak hs
 ·obtain⟨i,hi,rfl⟩:=EV t ht;rw[rj];exact List.mem_map.2 ⟨i,aI i hi (.inr (by rw[gT hi])),by rw[gT hi]⟩
end
end Go.Proofs.YtldkpahaocjdpaaGreat
