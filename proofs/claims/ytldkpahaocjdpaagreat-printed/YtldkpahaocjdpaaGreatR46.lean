/-
  Plain: why each thing that follows does; the least reasons are there.
-/
import Derived.Test.YtldkpahaocjdpaaGreatR45
set_option maxHeartbeats 16000000
set_option maxRecDepth 1000000
namespace Go.Proofs.YtldkpahaocjdpaaGreat
section
def yf3 (rs:List PR)(S:B8->Nat)(K:List (Th × Nat))(p:Th × Nat):Prop:=
 ∃ r∈rs,S r.R.pd=S p.1.p/\∃ e ts,pmL (zM r.bs) ts []=some e/\zZ e (jB r)=p.1/\(∀ t∈ts,∃ q∈K,q.1=t/\(S t.p<S p.1.p\/(S t.p=S p.1.p/\q.2<p.2)))/\∀ x∈vV r.bs,zZ e x∉K.map (·.1)
structure zwy (rs:List PR)(S:B8->Nat)(s h:Nat)(K:List (Th × Nat)):Prop where
 nd:(K.map (·.1)).Nodup
 low:∀ p∈K,S p.1.p<s\/(S p.1.p=s/\p.2<h)
 pos:∀ p∈K,1<=p.2
 each:∀ p∈K,yf3 rs S K p
 closed:∀ r∈rs,S r.R.pd<s->∀ e∈qM K (vV r.bs) (zM r.bs) [],zZ e (jB r)∈K.map (·.1)
variable {t:Th} {K:List (Th × Nat)} {rs:List PR}
theorem yb8 (h:zkb rs K t):t∉K.map (·.1):=λ hm=>by
 have:=yO.2 hm;rw[h.1] at this;cases this
variable {s h:Nat} {S:B8->Nat}
theorem z9s (hv:∀ r∈rs,zer S r.R)(cT:∀ r∈rs,r.bs.map (·.1)=r.R.body)(hh:1<=h){L:List (Th × Nat)}(hK:zwy rs S s h K)(dB:(L.map (·.1)).Nodup)(hL:∀ p∈L,p.2=h)(hn:∀ p∈L,zkb (rs.filter (qJ S s)) K p.1):zwy rs S s (h+1) (K++L):=by
 have Cc:∀ p∈L,S p.1.p=s:=λ p hp=>by
  obtain⟨_,r,hr,e,_,hf⟩:=hn p hp;have h2:=(List.mem_filter.1 hr).2;unfold qJ at h2;rw[<-hf]
  show S r.R.pd=s
  simpa using h2
 have ak:∀ t∈(K++L).map (·.1),S t.p<s->t∈K.map (·.1):=λ t ht hs=>by
  rw[List.map_append] at ht;rcases List.mem_append.1 ht with ht | ht
  ·exact ht
  ·obtain⟨p,hp,rfl⟩:=List.mem_map.1 ht;have:=Cc p hp;omega
 have bC:∀ q∈K,q∈K++L:=λ q hq=>List.mem_append_left _ hq
 refine⟨?_,λ p hp=>?_,λ p hp=>?_,λ p hp=>?_,λ r hr hs e he=>?_⟩
 ·rw[List.map_append];refine List.nodup_append.2 ⟨hK.nd,dB,λ a ha b hb e=>?_⟩;subst e;obtain⟨p,hp,rfl⟩:=List.mem_map.1 hb;exact yb8 (hn p hp) ha
 ·rcases List.mem_append.1 hp with hp | hp
  ·rcases hK.low p hp with h1 | ⟨h1,h2⟩
   ·exact .inl h1
   ·exact .inr ⟨h1,by omega⟩
  ·exact .inr ⟨Cc p hp,by rw[hL p hp];omega⟩
 ·rcases List.mem_append.1 hp with hp | hp
  ·exact hK.pos p hp
  ·rw[hL p hp];exact hh
 ·rcases List.mem_append.1 hp with hp | hp
  ·obtain⟨r,hr,hs,e,ts,h1,h2,h3,h4⟩:=hK.each p hp;refine⟨r,hr,hs,e,ts,h1,h2,λ t ht=>let ⟨q,hq,h5⟩:=h3 t ht;⟨q,bC q hq,h5⟩,λ x hx hm=>h4 x hx (ak _ hm ?_)⟩;have:=ze7 (hv r hr) (cT r hr) x hx
   show S x.p<s
   rcases hK.low p hp with h1 | ⟨h1,_⟩ <;> omega
  ·obtain⟨_,r,hr,e,he,hf⟩:=hn p hp;have ez:=(List.mem_filter.1 hr).1;have gj:=Cc p hp;have KX:S r.R.pd=S p.1.p:=(by rw[<-hf];rfl);obtain⟨⟨ts,h1,h2⟩,h3⟩:=zfd.1 he;refine⟨r,ez,KX,e,ts,h1,hf,λ t ht=>?_,λ x hx hm=>h3 x hx (ak _ hm ?_)⟩
   ·obtain⟨q,hq,rfl⟩:=List.mem_map.1 (h2 t ht);refine⟨q,bC q hq,rfl,?_⟩;rcases hK.low q hq with h4 | ⟨h4,h5⟩
    ·exact .inl (by omega)
    ·exact .inr ⟨by omega,by rw[hL p hp];exact h5⟩
   ·have:=ze7 (hv r ez) (cT r ez) x hx
    show S x.p<s
    omega
 ·obtain⟨⟨ts,h1,h2⟩,h3⟩:=zfd.1 he;rw[List.map_append];refine List.mem_append_left _ (hK.closed r hr hs e (zfd.2 ⟨⟨ts,h1,λ t ht=>ak t (h2 t ht) ?_⟩,λ x hx hm=>h3 x hx ?_⟩))
  ·obtain⟨a,ha,e⟩:=zkq h1 t ht;have:=zln (hv r hr) (cT r hr) a ha;rw[<-e];omega
  ·rw[List.map_append];exact List.mem_append_left _ hm
theorem yey (hK:zwy rs S s h K)(hn:∀ t,¬ zkb (rs.filter (qJ S s)) K t):zwy rs S (s+1) 1 K:=by
 refine⟨hK.nd,λ p hp=>.inl ?_,hK.pos,hK.each,λ r hr hs e he=>?_⟩
 ·rcases hK.low p hp with h1 | ⟨h1,_⟩ <;> omega
 ·by_cases h1:S r.R.pd<s
  ·exact hK.closed r hr h1 e he
  ·cases hl:zU K (zZ e (jB r)) with
   | some n=>exact yO.1 (by rw[hl];rfl)
   | none=>exact absurd ⟨hl,r,List.mem_filter.2 ⟨hr,by unfold qJ;simp;omega⟩,e,he,rfl⟩ (hn (zZ e (jB r)))
variable {r:Option (List (Th × Nat))} {limit:Nat}
theorem z2b (hv:∀ r∈rs,zer S r.R)(cT:∀ r∈rs,r.bs.map (·.1)=r.R.body)(hc:qT (rs.filter (qJ S s)) limit h K r):1<=h->zwy rs S s h K->∀ K',r=some K'->zwy rs S (s+1) 1 K':=by
 induction hc with
 | fk _ _ _ _=>intro _ _ K' e;cases e
 | done hn=>
  intro _ hb K' e;obtain rfl:=Option.some.inj e;exact yey hb hn
 | more _ dB hh hL _ _ ih=>exact λ h1 hb=>ih (by omega) (z9s hv cT h1 hb dB hh (λ p hp=>(hL p.1).1 ⟨p.2,hp⟩))
theorem z5o (hv:∀ r∈rs,zer S r.R)(cT:∀ r∈rs,r.bs.map (·.1)=r.R.body){count:Nat}(hc:jL rs S limit count s K r):zwy rs S s 1 K->∀ K',r=some K'->∃ m,count<=m/\zwy rs S m 1 K':=by
 induction hc with
 | ends h=>
  intro hb K' e;obtain rfl:=Option.some.inj e;exact⟨_,h,hb⟩
 | fK _ _=>intro _ K' e;cases e
 | next _ hc _ ih=>exact λ hb=>ih (z2b hv cT hc L9 hb _ rfl)
theorem yda (rs:List PR)(S:B8->Nat):zwy rs S 0 1 []:=⟨List.nodup_nil,by simp,by simp,by simp,λ _ _ h=>by omega⟩
theorem zqz {p q:Pl}:∀ (l:List Pl) (i k:Nat) (h:k<l.length),l[k]=q->zbj q p=true->(q.t,i+k)∈zcx p l i
 | x::r,i,0,_,e,hu=>by
  have e:x=q:=e;subst e;rw[zcx,if_pos hu];exact List.mem_cons_self
 | x::r,i,k+1,h,e,hu=>by
  have ih:=zqz (p:=p) r (i+1) k (by simpa using h) (by simpa using e) hu;rw[show i+1+k=i+(k+1) by omega] at ih;rw[zcx]
  split
  ·exact List.mem_cons_of_mem _ ih
  ·exact ih
theorem zfe {p:Pl}{t:Th}{n:Nat}:∀ (l:List Pl) (i:Nat),(t,n)∈zcx p l i->∃ (k:Nat) (h:k<l.length),n=i+k/\l[k].t=t/\zbj l[k] p=true
 | [],i,h=>by cases h
 | x::r,i,h=>by
  rw[zcx] at h
  split at h
  ·rename_i hu;rcases List.mem_cons.1 h with e | h
   ·injection e with e1 e2
    exact⟨0,by simp,by omega,e1.symm,hu⟩
   ·obtain⟨k,hk,h1,h2,h3⟩:=zfe r (i+1) h;exact⟨k+1,by simpa using hk,by omega,by simpa using h2,by simpa using h3⟩
  ·obtain⟨k,hk,h1,h2,h3⟩:=zfe r (i+1) h;exact⟨k+1,by simpa using hk,by omega,by simpa using h2,by simpa using h3⟩
theorem zdo {p q:Pl}:zbj p q=true↔p.s<q.s\/(p.s=q.s/\p.h<q.h):=by unfold zbj;simp
theorem zsq:∀ (l:List (List Nat)),l≠[]->∃ x∈l,∀ y∈l,zi4 y x=false
 | [x],_=>⟨x,List.mem_singleton.2 rfl,λ y hy=>by rw[List.mem_singleton.1 hy];exact Ng x⟩
 | x::y::r,_=>by
  obtain⟨z,hz,h⟩:=zsq (y::r) (by simp)
  by_cases hx:zi4 x z=true
  ·refine⟨x,List.mem_cons_self,λ u hu=>?_⟩;rcases List.mem_cons.1 hu with rfl | hu
   ·exact Ng _
   ·cases hux:zi4 u x with
    | false=>rfl
    | true=>have:=h u hu;rw[zi5 hux hx] at this;cases this
  ·refine⟨z,List.mem_cons_of_mem _ hz,λ u hu=>?_⟩;rcases List.mem_cons.1 hu with rfl | hu
   ·simpa using hx
   ·exact h u hu
theorem z7m {P:Nat->Prop}{n:Nat}(h:∃ j,j<n/\P j):∃ j,j<n/\P j/\∀ i,i<j->¬ P i:=by
 obtain⟨j,hj,hp⟩:=h
 induction j using Nat.strongRecOn with
 | _ j ih=>
  by_cases hx:∃ i,i<j/\P i
  ·obtain⟨i,hi,qm⟩:=hx;exact ih i hi (by omega) qm
  ·exact⟨j,hj,hp,λ i hi qm=>hx ⟨i,hi,qm⟩⟩
variable {row:List Nat} {rp:List PR}
theorem zzr {N:List (Th × Nat)}{r:PR}(hr:r∈rp)(h:row∈zar N r t):∃ i x,my N rp t i x:=by
 obtain⟨j,hj,Jv⟩:=List.getElem_of_mem hr;obtain⟨i,hi,hp,aX⟩:=z7m (P:=λ i=>∃ h:i<rp.length,zar N rp[i] t≠[]) ⟨j,hj,hj,λ e=>by rw[Jv] at e;rw[e] at h;cases h⟩;obtain⟨h1,h2⟩:=hp;obtain⟨x,hx,uF⟩:=zsq _ h2;exact⟨i,x,λ k hk gW=>Classical.byContradiction λ bG=>aX k gW ⟨hk,bG⟩,h1,hx,uF⟩
variable {i:Nat} {O:List Pl} {ps:P9}
theorem z41 (hO:∀ q∈O,eE ps q.t)(cC:O.Pairwise λ p q=>xX p q=true)(hi:i<O.length){r:PR}(hg:j0 ps r)(h:row∈zar (zcx O[i] O 0) r O[i].t):row.length<=3/\∀ x∈row,x<i:=by
 have hN:∀ p∈zcx O[i] O 0,eE ps p.1:=λ p hp=>by
  obtain⟨k,hk,_,h2,_⟩:=zfe O 0 (show (p.1,p.2)∈_ from hp);rw[<-h2];exact hO _ (List.getElem_mem hk)
 obtain⟨e,he,_,rfl⟩:=(zjh hN hg (hO _ (List.getElem_mem hi)) row).1 h;have hp:e∈zR (zcx O[i] O 0) (zM r.bs) []:=(List.mem_filter.1 he).1;obtain⟨_,hf⟩:=vR (zM r.bs) [] e (λ a ha p hp=>zlh (hg.pos a ha) (hN p hp)) hp;refine⟨?_,λ x hx=>?_⟩
 ·unfold jZ;rw[List.length_map];exact Nat.le_trans (zia r.bs) hg.l3
 ·unfold jZ at hx;obtain⟨a,ha,rfl⟩:=List.mem_map.1 hx;obtain⟨_,n,hn⟩:=hf a ha;have hs:=(zdy (zcx O[i] O 0) (zZ e a)).2 ⟨n,hn⟩;obtain⟨m,hm⟩:=Option.isSome_iff_exists.1 hs;rw[hm];obtain⟨k,hk,h1,_,h3⟩:=zfe O 0 (vJ hm);simp only[Option.getD_some];rcases Nat.lt_trichotomy k i with h4 | h4 | h4
  ·omega
  ·exfalso
   subst h4;rw[zdo] at h3;omega
  ·exfalso
   have:=List.pairwise_iff_getElem.1 cC i k hi hk h4;rw[zav] at this;rw[zdo] at h3;omega
theorem z6d (hR:∀ r∈rp,j0 ps r)(hT:∀ p∈K,eE ps p.1)(hK:zwy rp S s h K)(hO:O.Perm (K.map (zir S)))(hi:i<O.length):∃ j x,my (zcx O[i] O 0) rp O[i].t j x:=by
 have bC:O[i]∈K.map (zir S):=hO.mem_iff.1 (List.getElem_mem hi);obtain⟨p,hp,Dh⟩:=List.mem_map.1 bC;have r9:∀ q∈O,eE ps q.t:=λ q hq=>by
  obtain⟨y,hy,rfl⟩:=List.mem_map.1 (hO.mem_iff.1 hq);exact hT y hy
 have hN:∀ p∈zcx O[i] O 0,eE ps p.1:=λ p hp=>by
  obtain⟨k,hk,_,h2,_⟩:=zfe O 0 (show (p.1,p.2)∈_ from hp);rw[<-h2];exact r9 _ (List.getElem_mem hk)
 obtain⟨r,hr,hs,e,ts,h1,h2,h3,h4⟩:=hK.each p hp;have ht:O[i].t=p.1:=by rw[<-Dh];rfl
 have Mp:O[i].s=S p.1.p:=by rw[<-Dh];rfl
 have JS:O[i].h=p.2:=by rw[<-Dh];rfl
 refine zzr hr (row:=jZ (zcx O[i] O 0) (zM r.bs) e) ((zjh hN (hR r hr) (r9 _ (List.getElem_mem hi)) _).2 ⟨e,zfd.2 ⟨⟨ts,h1,λ t ht=>?_⟩,λ x hx hm=>h4 x hx ?_⟩,by rw[h2,ht],rfl⟩)
 ·obtain⟨q,hq,rfl,hu⟩:=h3 t ht;have J1:zir S q∈O:=hO.mem_iff.2 (List.mem_map_of_mem hq);obtain⟨k,hk,lX⟩:=List.getElem_of_mem J1;have:=zqz (p:=O[i]) O 0 k hk lX (zdo.2 (by rw[Mp,JS];exact hu));exact List.mem_map.2 ⟨_,this,rfl⟩
 ·obtain⟨y,hy,e1⟩:=List.mem_map.1 hm;obtain⟨k,hk,_,h6,_⟩:=zfe O 0 (show (y.1,y.2)∈_ from hy);obtain⟨z,hz,e2⟩:=List.mem_map.1 (hO.mem_iff.1 (List.getElem_mem hk));refine List.mem_map.2 ⟨z,hz,?_⟩;rw[<-e1,<-h6,<-e2];rfl
theorem yc9 (hR:∀ r∈rp,j0 ps r)(hT:∀ p∈K,eE ps p.1)(hK:zwy rp S s h K)(hO:O.Perm (K.map (zir S)))(cC:O.Pairwise λ p q=>xX p q=true):∃ rea,zhi ps S rp K O rea:=by
 have r9:∀ q∈O,eE ps q.t:=λ q hq=>by
  obtain⟨y,hy,rfl⟩:=List.mem_map.1 (hO.mem_iff.1 hq);exact hT y hy
 have all:∀ i,∃ x:Nat × List Nat,∀ h:i<O.length,my (zcx O[i] O 0) rp O[i].t x.1 x.2:=λ i=>by
  by_cases hi:i<O.length
  ·obtain⟨j,x,hx⟩:=z6d hR hT hK hO hi;exact⟨(j,x),λ _=>hx⟩
  ·exact⟨(0,[]),λ h=>absurd h hi⟩
 refine⟨λ i=>(all i).choose,hO,λ i h=>(all i).choose_spec h,λ i h=>?_,λ i h=>?_⟩
 ·have hl:=(all i).choose_spec h;exact (z41 r9 cC h (hR _ (List.getElem_mem hl.lt)) hl.mem).1
 ·have hl:=(all i).choose_spec h;exact (z41 r9 cC h (hR _ (List.getElem_mem hl.lt)) hl.mem).2
end
section
theorem zyh {T:List Th}{rk:Nat->Nat}{th:Nat->Th}:∀ (pos:List xG) (xs:List Nat) (e0:zY),pos.length=xs.length->(∀ x∈xs,T[rk x]?=some (th x))->zdl pos (xs.map rk) T e0=pmL pos (xs.map th) e0
 | [],[],e0,_,_=>rfl
 | [],_::_,e0,h,_=>by simp at h
 | _::_,[],e0,h,_=>by simp at h
 | a::r,x::q,e0,h,hT=>by
  rw[List.map_cons,List.map_cons,zdm,pmL];simp only[hT x List.mem_cons_self]
  cases yC e0 a (th x) with
  | none=>rfl
  | some e'=>exact zyh r q e' (by simpa using h) (λ y hy=>hT y (List.mem_cons_of_mem _ hy))
theorem yal {x:zY}:∀ (pos:List xG) (e:zY),Ext e x->(∀ a∈pos,Dom x a)->∃ e',pmL pos (pos.map (zZ x)) e=some e'/\Ext e' x
 | [],e,h,_=>⟨e,rfl,h⟩
 | a::r,e,h,hd=>by
  obtain⟨e1,h1,h2⟩:=zmc h (hd a List.mem_cons_self);obtain⟨e2,h3,h4⟩:=yal r e1 h2 (λ b hb=>hd b (List.mem_cons_of_mem _ hb));exact⟨e2,by rw[List.map_cons,pmL,h1];exact h3,h4⟩
structure ya5 (rp:List PR)(S:B8->Nat)(K:List (Th × Nat))(O:List Pl)(j:Nat)(x:Nat × List Nat)(r:PR)(e:zY):Prop where
 rule:rp[x.1]?=some r
 len:(zM r.bs).length=x.2.length
 pm:pmL (zM r.bs) (x.2.map λ i=>(O[i]?.getD default).t) []=some e
 hd:zZ e (jB r)=(O[j]?.getD default).t
 str:∀ i∈x.2,(O[i]?.getD default).s<=(O[j]?.getD default).s
 neg:∀ y∈vV r.bs,zZ e y∉K.map (·.1)/\S y.p<(O[j]?.getD default).s
variable {rea:Nat->Nat × List Nat} {O:List Pl} {K:List (Th × Nat)} {S:B8->Nat} {rp:List PR} {ps:P9}
theorem z8a (hv:∀ r∈rp,zer S r.R)(cT:∀ r∈rp,r.bs.map (·.1)=r.R.body)(hR:∀ r∈rp,j0 ps r)(hT:∀ p∈K,eE ps p.1)(hA:zhi ps S rp K O rea){j:Nat}(hj:j<O.length):∃ r e,ya5 rp S K O j (rea j) r e:=by
 have r9:∀ q∈O,eE ps q.t:=λ q hq=>by
  obtain⟨y,hy,rfl⟩:=List.mem_map.1 (hA.perm.mem_iff.1 hq);exact hT y hy
 have hN:∀ p∈zcx O[j] O 0,eE ps p.1:=λ p hp=>by
  obtain⟨k,hk,_,h2,_⟩:=zfe O 0 (show (p.1,p.2)∈_ from hp);rw[<-h2];exact r9 _ (List.getElem_mem hk)
 have hL:=hA.least j hj;have hr:=List.getElem_mem hL.lt;have hg:=hR _ hr;have Cf:O[j]?.getD default=O[j]:=by rw[List.getElem?_eq_getElem hj];rfl
 obtain⟨e0,he,nC,aE⟩:=(zjh hN hg (r9 _ (List.getElem_mem hj)) _).1 hL.mem;have bP:=hL.lt;obtain⟨r,JY⟩:∃ r,r=rp[(rea j).1]'(bP):=⟨_,rfl⟩;rw[<-JY] at hr hg he nC aE;have lg:e0∈zR (zcx O[j] O 0) (zM r.bs) []:=(List.mem_filter.1 he).1;obtain⟨_,hf⟩:=vR (zM r.bs) [] e0 (λ a ha p hp=>zlh (hg.pos a ha) (hN p hp)) lg;have pz:∀ a∈zM r.bs,∃ (i:Nat) (h:i<O.length),(zU (zcx O[j] O 0) (zZ e0 a)).getD 0=i/\O[i].t=zZ e0 a/\zbj O[i] O[j]=true:=λ a ha=>by
  obtain⟨_,n,hn⟩:=hf a ha;have hs:=(zdy (zcx O[j] O 0) (zZ e0 a)).2 ⟨n,hn⟩;obtain⟨m,hm⟩:=Option.isSome_iff_exists.1 hs;obtain⟨i,hi,h1,h2,h3⟩:=zfe O 0 (vJ hm);exact⟨i,hi,by rw[hm];simpa using h1,h2,h3⟩
 have aq:(rea j).2.map (λ i=>(O[i]?.getD default).t)=(zM r.bs).map (zZ e0):=by
  rw[<-aE];unfold jZ;rw[List.map_map];refine List.map_congr_left λ a ha=>?_
  obtain⟨i,hi,h1,h2,_⟩:=pz a ha;simp only[Function.comp_def,h1,List.getElem?_eq_getElem hi,Option.getD_some,h2]
 obtain⟨e,h1,h2⟩:=yal (zM r.bs) [] (Ext.nil _) (λ a ha=>(hf a ha).1);have yx:∀ a∈zM r.bs,Dom e a:=λ a ha=>by
  have hm:e∈zR (((zM r.bs).map (zZ e0)).map λ t=>(t,0)) (zM r.bs) []:=zqt.2 ⟨_,h1,λ t ht=>by rw[List.map_map];simpa[Function.comp_def] using ht⟩
  exact ((vR (zM r.bs) [] e (λ b hb p hp=>by
   obtain⟨t,ht,rfl⟩:=List.mem_map.1 hp;obtain⟨c,hc,rfl⟩:=List.mem_map.1 ht;obtain⟨_,n,hn⟩:=hf c hc
   exact zlh (hg.pos b hb) (hN (zZ e0 c,n) hn)) hm).2 a ha).1
 have jh:(jB r).p=O[j].t.p:=by rw[<-nC];rfl
 have Mp:S O[j].t.p=O[j].s:=by
  obtain⟨y,hy,he⟩:=List.mem_map.1 (hA.perm.mem_iff.1 (List.getElem_mem hj));rw[<-he];rfl
 refine⟨r,e,by rw[JY];exact List.getElem?_eq_getElem bP,by rw[<-aE];unfold jZ;rw[List.length_map],by rw[aq];exact h1,?_,λ i hi=>?_,λ y hy=>?_⟩
 ·rw[Cf,<-nC];exact (h2.fill (hg.tT yx)).symm
 ·rw[<-aE] at hi;unfold jZ at hi;obtain⟨a,ha,rfl⟩:=List.mem_map.1 hi;obtain⟨i,hi,h3,_,h4⟩:=pz a ha;rw[h3,List.getElem?_eq_getElem hi,Cf];rw[zdo] at h4;simp only[Option.getD_some];omega
 ·have KY:S y.p<O[j].s:=by
   have:=ze7 (hv r hr) (cT r hr) y hy;rw[<-Mp,<-jh];exact this
  rw[Cf];refine⟨λ hm=>?_,KY⟩;have Jj:zZ e y=zZ e0 y:=(h2.fill (hg.kq yx y hy)).symm;rw[Jj] at hm;obtain⟨q,hq,FZ⟩:=List.mem_map.1 hm;obtain⟨i,hi,CE⟩:=List.getElem_of_mem (hA.perm.mem_iff.2 (List.mem_map_of_mem (f:=zir S) hq));have hu:zbj (zir S q) O[j]=true:=zdo.2 (.inl (by show S q.1.1<O[j].s;rw[FZ];exact KY));have:=zqz (p:=O[j]) O 0 i hi CE hu;refine (zfd.1 he).2 y hy (List.mem_map.2 ⟨_,this,?_⟩);exact FZ
theorem zt6 {rp:List PR}{S:B8->Nat}{K:List (Th × Nat)}{O:List Pl}{rea:Nat->Nat × List Nat}{rk:Nat->Nat}{R:Nat->PR}{E:Nat->zY}:∀ (post pre:List Nat),(∀ j∈post,ya5 rp S K O j (rea j) (R j) (E j))->(∀ (a b:List Nat) (j:Nat),pre++post=a++j::b->j∈post->∀ x∈(rea j).2,a[rk x]?=some x)->zak rp (post.map λ j=>((rea j).1,(rea j).2.map rk)) (pre.map λ j=>⟨R j,E j,(O[j]?.getD default).t⟩)=some ((pre++post).map λ j=>⟨R j,E j,(O[j]?.getD default).t⟩)
 | [],pre,_,_=>by rw[List.append_nil];rfl
 | j::post,pre,hN,qn=>by
  have h:=hN j List.mem_cons_self;rw[List.map_cons,zak];simp only[h.rule];have hT:∀ x∈(rea j).2,((pre.map λ j=>(⟨R j,E j,(O[j]?.getD default).t⟩:yM)).map (·.t))[rk x]?=some (O[x]?.getD default).t:=λ x hx=>by
   have:=qn pre post j rfl List.mem_cons_self x hx;rw[List.map_map,List.getElem?_map,this];rfl
  rw[zyh (zM (R j).bs) (rea j).2 [] h.len hT,h.pm];simp only[h.hd];have ih:=zt6 post (pre++[j]) (λ i hi=>hN i (List.mem_cons_of_mem _ hi)) (λ a b i he hi x hx=>qn a b i (by rw[<-he,List.append_assoc];rfl) (List.mem_cons_of_mem _ hi) x hx);rw[List.map_append] at ih;rw[List.append_assoc] at ih;exact ih
theorem z4w {pos:List Nat}:∀ (ns:List (Nat × List Nat)),(∀ x∈ns,pos[x.1]?=some x.2.length)->rdP pos ns.length (ns.flatMap lP)=some ns
 | [],_=>rfl
 | x::r,h=>by
  have h1:=h x List.mem_cons_self;have ih:=z4w r (λ y hy=>h y (List.mem_cons_of_mem _ hy));rw[List.length_cons,List.flatMap_cons]
  show rdP pos (r.length+1) (x.1::x.2++r.flatMap lP)=_
  rw[List.cons_append,rdP];simp only[h1];rw[if_neg (by rw[List.length_append];omega),List.drop_left' rfl,ih,List.take_left' rfl]
theorem z6e (hv:∀ r∈rp,zer S r.R)(cT:∀ r∈rp,r.bs.map (·.1)=r.R.body)(hR:∀ r∈rp,j0 ps r){m:Nat}(hm:vY ps S m){s:Nat}(eX:m<=s)(hK:zwy rp S s 1 K)(hT:∀ p∈K,eE ps p.1)(fo:K.length<=50)(hA:zhi ps S rp K O rea)(t:Th):∃ st,ie rp S m (zc5 ps S K t rea O) (xQ ps S K t) st/\(∀ u∈st.map (·.t),u∈K.map (·.1))/\(t∈K.map (·.1)->t∈st.map (·.t)):=by
 have E7:O.length=K.length:=by rw[hA.perm.length_eq,List.length_map]
 have Ce:∀ i (h:i<O.length),O[i].t∈K.map (·.1)/\O[i].s=S O[i].t.p:=λ i h=>by
  obtain⟨y,hy,he⟩:=List.mem_map.1 (hA.perm.mem_iff.1 (List.getElem_mem h));rw[<-he];exact⟨List.mem_map_of_mem hy,rfl⟩
 have EV:∀ u∈K.map (·.1),∃ (i:Nat) (h:i<O.length),O[i].t=u:=λ u hu=>by
  obtain⟨y,hy,rfl⟩:=List.mem_map.1 hu;obtain⟨i,hi,he⟩:=List.getElem_of_mem (hA.perm.mem_iff.2 (List.mem_map_of_mem (f:=zir S) hy));exact⟨i,hi,by rw[he];rfl⟩
 have dB:(O.map (·.t)).Nodup:=by
  have h1:(O.map (·.t)).Perm ((K.map (zir S)).map (·.t)):=hA.perm.map _;rw[List.map_map] at h1;exact h1.nodup_iff.2 hK.nd
 have gT:∀ {i:Nat} (h:i<O.length),O[i]?.getD default=O[i]:=λ h=>by rw[List.getElem?_eq_getElem h];rfl
 have bh:∀ j,∃ re:PR × zY,j<O.length->ya5 rp S K O j (rea j) re.1 re.2:=λ j=>by
  by_cases hj:j<O.length
  ·obtain⟨r,e,h⟩:=z8a hv cT hR hT hA hj;exact⟨(r,e),λ _=>h⟩
  ·exact⟨(⟨⟨{ data:=#[] },[],[]⟩,.bool false,[],.bool false⟩,[]),λ h=>absurd h hj⟩
 obtain⟨k,hk⟩:∃ k,k=xQ ps S K t:=⟨_,rfl⟩;obtain⟨B,hB⟩:∃ B,B=br O k t rea 0:=⟨_,rfl⟩;obtain⟨F,hF⟩:∃ F,F=(List.range O.length).filter B:=⟨_,rfl⟩;have nw:∀ j,j∈F↔j<O.length/\B j=true:=λ j=>by rw[hF,List.mem_filter,List.mem_range]
 have ES:F.length<=50:=by
  rw[hF];have:=List.length_filter_le B (List.range O.length);rw[List.length_range] at this;omega
 have aI:∀ j,j<O.length->(O[j]?.getD default).s<k\/(O[j]?.getD default).t=t->j∈F:=λ j hj h=>(nw j).2 ⟨hj,by
  rw[hB];refine z78 hj ?_;unfold z8c
  rcases h with h | h <;> simp[h]⟩
 have LW:∀ j∈F,∀ x∈(rea j).2,x∈F:=λ j hj x hx=>by
  obtain⟨h1,h2⟩:=(nw j).1 hj;rw[hB] at h2;have:=hA.low j h1 x hx;exact (nw x).2 ⟨by omega,by rw[hB];exact Oa hA.low h1 h2 x hx⟩
 have Dm:∀ j∈F,(O[j]?.getD default).s<=k:=λ j hj=>by
  obtain⟨h1,h2⟩:=(nw j).1 hj;rw[hB] at h2;refine (zx0 (Q:=λ j=>(O[j]?.getD default).s<=k) hA.low (λ i hi ho=>?_) (λ i hi hq x hx=>?_) O.length 0 (Nat.zero_add _) j h2).1
  ·unfold z8c at ho;simp only[Bool.or_eq_true,decide_eq_true_eq] at ho;rcases ho with ho | ho
   ·exact Nat.le_of_lt ho
   ·rw[gT hi] at ho ⊢;obtain⟨h3,h4⟩:=Ce i hi;rw[h4,ho,hk];rw[ho] at h3;unfold xQ;have hl:=yO.2 h3;obtain⟨y,hy,Kq⟩:=List.mem_map.1 h3;have hn:(zV ps t.1).isSome=true:=(by have:=(hT y hy).num;rw[Kq] at this;rw[this];rfl);rw[if_pos hn,if_pos hl];exact Nat.le_refl _
  ·exact Nat.le_trans (((bh i).choose_spec hi).str x hx) hq
 have uj:gP ps S K t rea O=F.map λ j=>((rea j).1,(rea j).2.map (zfg B)):=by rw[z2m hA.low,hF,hB,hk]
 have mf:=zt6 (rp:=rp) (S:=S) (K:=K) (O:=O) (rea:=rea) (rk:=zfg B) (R:=λ j=>(bh j).choose.1) (E:=λ j=>(bh j).choose.2) F [] (λ j hj=>(bh j).choose_spec ((nw j).1 hj).1) (λ a b j he hj x hx=>by
  have mg:=LW j hj x hx;obtain⟨mh,qp⟩:=(nw x).1 mg;have hr:=ycn B mh qp;rw[<-hF] at hr;rw[List.nil_append] at he;have hxj:=hA.low j ((nw j).1 hj).1 x hx;have mO:F.Pairwise (·<·):=by rw[hF];exact List.pairwise_lt_range.filter _
  have bP:zfg B x<a.length:=by
   rcases Nat.lt_trichotomy (zfg B x) a.length with h | h | h
   ·exact h
   ·exfalso
    rw[he,h,List.getElem?_append_right L9,Nat.sub_self] at hr;have:j=x:=Option.some.inj hr;omega
   ·exfalso
    obtain⟨h1,h2⟩:=List.getElem?_eq_some_iff.1 hr;have h3:a.length<F.length:=(by omega);have h4:=List.pairwise_iff_getElem.1 mO a.length (zfg B x) h3 h1 h;have h5:F[a.length]=j:=(by simp only[he];rw[List.getElem_append_right L9];simp);omega
  rw[he,List.getElem?_append_left bP] at hr
  exact hr)
 rw[List.nil_append] at mf;obtain⟨st,dj⟩:∃ st,st=F.map λ j=>(⟨(bh j).choose.1,(bh j).choose.2,(O[j]?.getD default).t⟩:yM):=⟨_,rfl⟩
 rw[<-dj] at mf;have rj:st.map (·.t)=F.map λ j=>(O[j]?.getD default).t:=by rw[dj,List.map_map];rfl
 have uw:∀ u∈st.map (·.t),u∈K.map (·.1):=λ u hu=>by
  rw[rj] at hu;obtain⟨j,hj,rfl⟩:=List.mem_map.1 hu;rw[gT ((nw j).1 hj).1];exact (Ce j ((nw j).1 hj).1).1
 have LG:∀ u∈K.map (·.1),S u.p<k->u∈st.map (·.t):=λ u hu hs=>by
  obtain⟨i,hi,rfl⟩:=EV u hu;rw[rj];refine List.mem_map.2 ⟨i,aI i hi (.inl ?_),by rw[gT hi]⟩;rw[gT hi,(Ce i hi).2];exact hs
 refine⟨st,⟨gP ps S K t rea O,?_,?_,?_,?_,?_,?_⟩,uw,λ ht=>?_⟩
 ·unfold zc5 zgz zke;have hl:(gP ps S K t rea O).length=F.length:=by rw[uj,List.length_map]
  simp only;rw[if_neg (by omega),z4w,Option.map_some];intro x hx;rw[uj] at hx;obtain⟨j,hj,rfl⟩:=List.mem_map.1 hx;have h:=(bh j).choose_spec ((nw j).1 hj).1;unfold zjd;rw[List.getElem?_map,h.rule,Option.map_some,List.length_map,h.len]
 ·unfold xQ
  split
  ·rename_i hn;have:=hm.1 t.1 hn
   split <;> omega
  ·exact Nat.zero_le _
 ·rw[uj];exact mf
 ·rw[rj];have IU:F.Nodup:=by rw[hF];exact List.nodup_range.filter _
  refine List.pairwise_map.2 (IU.imp_of_mem λ {i j} hi hj bG e=>bG ?_);have h1:=((nw i).1 hi).1;have h2:=((nw j).1 hj).1;rw[gT h1,gT h2] at e;have hp:=List.pairwise_iff_getElem.1 (List.pairwise_map.1 dB);rcases Nat.lt_trichotomy i j with h | h | h
  ·exact absurd e (hp i j h1 h2 h)
  ·exact h
  ·exact absurd e.symm (hp j i h2 h1 h)
 ·intro x hx a ha;rw[dj] at hx;obtain⟨j,hj,rfl⟩:=List.mem_map.1 hx;have h:=((bh j).choose_spec ((nw j).1 hj).1).neg a ha;have h2:=Dm j hj;rw[<-hk];exact⟨λ hm=>h.1 (uw _ hm),by omega⟩
 ·intro r hr hs e he;rw[<-hk] at hs;obtain⟨⟨ts,h1,h2⟩,h3⟩:=zfd.1 he;rw[jC] at h2 h3
  have ak:=hK.closed r hr (by
   have hn:(zV ps r.R.pd).isSome=true:=(by rw[show r.R.pd=(jB r).p from rfl,(hR r hr).hd.num];rfl);have:=hm.1 r.R.pd hn
   omega) e (zfd.2 ⟨⟨ts,h1,λ u hu=>uw u (h2 u hu)⟩,λ x hx hm=>h3 x hx (LG _ hm (by
    have:=ze7 (hv r hr) (cT r hr) x hx
    show S x.p<k
    omega))⟩)
  exact LG _ ak hs
 ·obtain⟨i,hi,rfl⟩:=EV t ht;rw[rj];exact List.mem_map.2 ⟨i,aI i hi (.inr (by rw[gT hi])),by rw[gT hi]⟩
end
section
structure xN (rs rp:List PR):Prop where
 mem:∀ R,R∈rs.map (·.R)↔R∈rp.map (·.R)
 a:∀ r∈rs,r.bs.map (·.1)=r.R.body
 b:∀ r∈rp,r.bs.map (·.1)=r.R.body
variable {rs rp:List PR}
theorem xN.symm (h:xN rs rp):xN rp rs:=⟨λ R=>(h.mem R).symm,h.b,h.a⟩
theorem z3j (b:Bool){xs ys:List (yR × Value)}(h:xs.map (·.1)=ys.map (·.1)):(zW b xs).map (·.1)=(zW b ys).map (·.1):=by
 have key:∀ zs:List (yR × Value),(zW b zs).map (·.1)=((zs.map (·.1)).filter λ l=>l.neg==b).map λ l=>(⟨l.pd,l.ts⟩:xG):=λ zs=>by
  unfold zW
  induction zs with
  | nil=>rfl
  | cons z r ih=>
   rw[List.filter_cons,List.map_cons,List.filter_cons]
   by_cases hz:xA b z=true
   ·rw[if_pos hz,if_pos (show (z.1.neg==b)=true from hz),List.map_cons,List.map_cons,List.map_cons,ih];rfl
   ·rw[if_neg hz,if_neg (show ¬ (z.1.neg==b)=true from hz)];exact ih
 rw[key,key,h]
variable {r q:PR}
theorem yan (hr:r.bs.map (·.1)=r.R.body)(hq:q.bs.map (·.1)=q.R.body)(h:r.R=q.R):zM r.bs=zM q.bs:=z3j false (by rw[hr,hq,h])
theorem yak (hr:r.bs.map (·.1)=r.R.body)(hq:q.bs.map (·.1)=q.R.body)(h:r.R=q.R):vV r.bs=vV q.bs:=z3j true (by rw[hr,hq,h])
theorem yec (h:r.R=q.R):jB r=jB q:=by unfold jB;rw[h]
theorem xN.get (h:xN rs rp)(hr:r∈rs):∃ q∈rp,r.R=q.R/\zM r.bs=zM q.bs/\vV r.bs=vV q.bs/\jB r=jB q:=by
 obtain⟨q,hq,e⟩:=List.mem_map.1 ((h.mem r.R).1 (List.mem_map_of_mem hr));exact⟨q,hq,e.symm,yan (h.a r hr) (h.b q hq) e.symm,yak (h.a r hr) (h.b q hq) e.symm,yec e.symm⟩
theorem xN.filter {rs rp:List PR}(h:xN rs rp)(S:B8->Nat)(s:Nat):xN (rs.filter (qJ S s)) (rp.filter (qJ S s)):=by
 refine⟨λ R=>?_,λ r hr=>h.a r (List.mem_filter.1 hr).1,λ r hr=>h.b r (List.mem_filter.1 hr).1⟩;have one:∀ {xs ys:List PR},(∀ R,R∈xs.map (·.R)->R∈ys.map (·.R))->R∈(xs.filter (qJ S s)).map (·.R)->R∈(ys.filter (qJ S s)).map (·.R):=λ hx hR=>by
  obtain⟨r,hr,rfl⟩:=List.mem_map.1 hR;obtain⟨h1,h2⟩:=List.mem_filter.1 hr;obtain⟨q,hq,e⟩:=List.mem_map.1 (hx r.R (List.mem_map_of_mem h1));refine List.mem_map.2 ⟨q,List.mem_filter.2 ⟨hq,?_⟩,e⟩;unfold qJ at h2 ⊢;rw[e];exact h2
 exact⟨one λ R=>(h.mem R).1,one λ R=>(h.mem R).2⟩
variable {K L:List (Th × Nat)}
theorem qL (h:xN rs rp)(hk:qA K L){t:Th}:zkb rs K t->zkb rp L t:=λ ⟨h1,r,hr,e,he,hf⟩=>by
 obtain⟨q,hq,_,e1,e2,e3⟩:=h.get hr;refine⟨?_,q,hq,e,?_,by rw[<-e3];exact hf⟩
 ·have:=hk.look t;rw[h1] at this
  cases hl:zU L t with
  | none=>rfl
  | some n=>rw[hl] at this;cases this
 ·rw[<-e1,<-e2];exact (hk.ways _ _ _ _).1 he
variable {limit n:Nat}
theorem zk9 (h:xN rs rp){r:Option (List (Th × Nat))}(hc:qT rs limit n K r):qT rp limit n K r:=by
 have hk:∀ K:List (Th × Nat),qA K K:=λ K _=>Iff.rfl
 induction hc with
 | fk L h1 h2 h3=>exact .fk L h1 (λ t ht=>qL h (hk _) (h2 t ht)) h3
 | done h1=>exact .done λ t ht=>h1 t (qL h.symm (hk _) ht)
 | more h1 h2 h3 h4 h5 _ ih=>exact .more h1 h2 h3 (λ t=>(h4 t).trans ⟨qL h (hk _),qL h.symm (hk _)⟩) h5 ih
variable {count s:Nat} {S:B8->Nat}
theorem NJ (h:xN rs rp){r:Option (List (Th × Nat))}(hc:jL rs S limit count s K r):jL rp S limit count s K r:=by
 induction hc with
 | ends h1=>exact .ends h1
 | fK h1 h2=>exact .fK h1 (zk9 (h.filter S _) h2)
 | next h1 h2 _ ih=>exact .next h1 (zk9 (h.filter S _) h2) ih
theorem vQ (h:K.Perm L):qA K L:=λ _=>⟨λ ⟨n,hn⟩=>⟨n,h.mem_iff.1 hn⟩,λ ⟨n,hn⟩=>⟨n,h.mem_iff.2 hn⟩⟩
theorem zq1 {M:List Th}(hM:M.Nodup)(E2:∀ t∈M,zkb rs K t)(hL:∀ t,(∃ n,(t,n)∈L)↔zkb rs K t):M.length<=L.length:=by
 have hs:∀ t∈M,t∈L.map (·.1):=λ t ht=>by
  obtain⟨n,hn⟩:=(hL t).2 (E2 t ht);exact List.mem_map.2 ⟨_,hn,rfl⟩
 have:=zly M (L.map (·.1)) hM hs
 rwa [List.length_map] at this
theorem zqx (hK:(K.map (·.1)).Nodup)(hL:(L.map (·.1)).Nodup)(h1:∀ p∈K,p.2=n)(h2:∀ p∈L,p.2=n)(h:∀ t,(∃ n,(t,n)∈K)↔∃ n,(t,n)∈L):K.Perm L:=by
 have hn:∀ {X:List (Th × Nat)},(X.map (·.1)).Nodup->X.Nodup:=λ hX=>(List.pairwise_map.1 hX).imp λ bG e=>bG (by rw[e])
 have one:∀ {X Y:List (Th × Nat)},(∀ p∈X,p.2=n)->(∀ p∈Y,p.2=n)->(∀ t,(∃ n,(t,n)∈X)->∃ n,(t,n)∈Y)->∀ p∈X,p∈Y:=λ hX hY hXY p hp=>by
  obtain⟨m,hm⟩:=hXY p.1 ⟨p.2,hp⟩;have e1:=hX p hp;have e2:=hY _ hm;have:p=(p.1,m):=Prod.ext rfl (e1.trans e2.symm);rw[this];exact hm
 refine (List.perm_ext_iff_of_nodup (hn hK) (hn hL)).2 λ p=>⟨one h1 h2 (λ t=>(h t).1) p,one h2 h1 (λ t=>(h t).2) p⟩
theorem zla (h:xN rs rp){r:Option (List (Th × Nat))}(hc:qT rs limit n K r):∀ {L:List (Th × Nat)} {r':Option (List (Th × Nat))},K.Perm L->K.length<=limit->qT rp limit n L r'->(r=none/\r'=none)\/∃ K' L',r=some K'/\r'=some L'/\K'.Perm L'/\K'.length<=limit:=by
 induction hc with
 | @fk n K M h1 h2 h3=>
  intro L r' hp hl hd;have hM:∀ t∈M,zkb rp L t:=λ t ht=>qL h (vQ hp) (h2 t ht)
  have hlen:=hp.length_eq
  cases hd with
  | fk _ _ _ _=>exact .inl ⟨rfl,rfl⟩
  | done hn=>
   exfalso
   cases M with
   | nil=>simp at h3;omega
   | cons t q=>exact hn t (hM t List.mem_cons_self)
  | more _ _ _ h7 h8 _=>
   exfalso
   have:=zq1 h1 hM h7;omega
 | @done n K hn=>
  intro L r' hp hl hd;have qk:∀ t,¬ zkb rp L t:=λ t ht=>hn t (qL h.symm (vQ hp.symm) ht)
  have hlen:=hp.length_eq
  cases hd with
  | fk M _ h2 h3=>
   exfalso
   cases M with
   | nil=>simp at h3;omega
   | cons t q=>exact qk t (h2 t List.mem_cons_self)
  | done _=>exact .inr ⟨_,_,rfl,rfl,hp,hl⟩
  | @more _ _ L1 _ h1 _ _ h4 _ _=>
   exfalso
   cases L1 with
   | nil=>exact h1 rfl
   | cons p q=>exact qk p.1 ((h4 p.1).1 ⟨p.2,List.mem_cons_self⟩)
 | @more n K L0 r h1 h2 h3 h4 h5 hc ih=>
  intro L r' hp hl hd;have hlen:=hp.length_eq
  cases hd with
  | fk M fa eG ey=>
   exfalso
   have:=zq1 fa (λ t ht=>qL h.symm (vQ hp.symm) (eG t ht)) h4;omega
  | done hn=>
   exfalso
   cases L0 with
   | nil=>exact h1 rfl
   | cons p q=>exact hn p.1 (qL h (vQ hp) ((h4 p.1).1 ⟨p.2,List.mem_cons_self⟩))
  | more g1 g2 g3 g4 g5 gc=>
   refine ih (hp.append (zqx h2 g2 h3 g3 λ t=>?_)) (by rw[List.length_append];exact h5) gc;rw[h4 t,g4 t];exact⟨qL h (vQ hp),qL h.symm (vQ hp.symm)⟩
theorem zt9 (h:xN rs rp){r:Option (List (Th × Nat))}(hc:jL rs S limit count s K r):∀ {L:List (Th × Nat)} {r':Option (List (Th × Nat))},K.Perm L->K.length<=limit->jL rp S limit count s L r'->(r=none/\r'=none)\/∃ K' L',r=some K'/\r'=some L'/\K'.Perm L'/\K'.length<=limit:=by
 induction hc with
 | ends h1=>
  intro L r' hp hl hd
  cases hd with
  | ends _=>exact .inr ⟨_,_,rfl,rfl,hp,hl⟩
  | fK h2 _=>omega
  | next h2 _ _=>omega
 | fK h1 h2=>
  intro L r' hp hl hd
  cases hd with
  | ends _=>omega
  | fK _ _=>exact .inl ⟨rfl,rfl⟩
  | next _ h3 _=>
   rcases zla (h.filter S _) h2 hp hl h3 with⟨_,e⟩ | ⟨_,_,e,_⟩
   ·cases e
   ·cases e
 | next h1 h2 _ ih=>
  intro L r' hp hl hd
  cases hd with
  | ends _=>omega
  | fK _ h3=>
   rcases zla (h.filter S _) h2 hp hl h3 with⟨e,_⟩ | ⟨_,_,_,e,_⟩
   ·cases e
   ·cases e
  | next _ h3 h4=>
   rcases zla (h.filter S _) h2 hp hl h3 with⟨e,_⟩ | ⟨_,_,e1,e2,e3,e4⟩
   ·cases e
   ·obtain rfl:=Option.some.inj e1;obtain rfl:=Option.some.inj e2;exact ih e3 e4 h4
theorem zfv {rs rp:List yH}(h:∀ R,R∈rs↔R∈rp){T:B8->Nat}(h1:qH rs S)(h2:zuu rs S)(h3:qH rp T)(h4:zuu rp T):S=T:=by
 funext k
 have a:=h2 T (λ R hR=>h3 R ((h R).1 hR)) k;have b:=h4 S (λ R hR=>h1 R ((h R).2 hR)) k;omega
end
section
open Go.RowKit Go.Maps
structure aY (s:B8)(xb:Nat)(w:W8)(lo:Nat)(rs:List PR):Prop where
 ok:(z7 s).1=true
 prog:zky w lo xb rs
 rules:rs.map (·.R)=(zJ s).2.2.1
variable {rs:List PR} {lo xb:Nat} {w:W8} {s:B8}
theorem aY.cg (h:aY s xb w lo rs):∀ r∈rs,r.bs.map (·.1)=r.R.body:=λ r hr=>by
 obtain⟨a,c,_,_,eI⟩:=h.prog;exact (eI.each r hr).eq
theorem aY.below {w':W8}(h:aY s xb w lo rs)(k:Below w.heap.size w w'):aY s xb w' lo rs:=by
 obtain⟨a,c,h1,h2,h3⟩:=h.prog;exact⟨h.ok,⟨a,c,(k.block _ (Array.getElem?_eq_some_iff.1 h1).1).trans h1,h2,h3.iY k L9⟩,h.rules⟩
theorem aY.dh (h:aY s xb w lo rs):∀ r∈rs,j0 (zF s).2 r:=(zfl h.ok h.rules h.cg).dh
variable {r:Option (List (Th × Nat))} {K:List (Th × Nat)} {limit:Nat} {TI:Th->Prop}
theorem z7a (hc:fI rs TI){n:Nat}(h:qT rs limit n K r):(∀ p∈K,TI p.1)->∀ K',r=some K'->∀ p∈K',TI p.1:=by
 induction h with
 | fk _ _ _ _=>intro _ K' e;cases e
 | done _=>intro hK K' e;obtain rfl:=Option.some.inj e;exact hK
 | more _ _ _ h4 _ _ ih=>
  intro hK;refine ih λ p hp=>?_
  rcases List.mem_append.1 hp with hp | hp
  ·exact hK p hp
  ·exact hc.new hK ((h4 p.1).1 ⟨p.2,hp⟩)
variable {S:B8->Nat}
theorem zyf (hc:fI rs TI){count s:Nat}(h:jL rs S limit count s K r):(∀ p∈K,TI p.1)->∀ K',r=some K'->∀ p∈K',TI p.1:=by
 induction h with
 | ends _=>intro hK K' e;obtain rfl:=Option.some.inj e;exact hK
 | fK _ _=>intro _ K' e;cases e
 | next _ h2 _ ih=>exact λ hK=>ih (z7a (hc.filter _) h2 hK _ rfl)
noncomputable def ztt (ps:P9)(rp:List PR)(Sp:B8->Nat)(K:List (Th × Nat))(O:List Pl):Nat->Nat × List Nat:=open Classical in if h:∃ r,zhi ps Sp rp K O r then h.choose else λ _=>(0,[])
variable {O:List Pl} {rp:List PR} {ps:P9}
theorem ycq {Sp:B8->Nat}(h:∃ r,zhi ps Sp rp K O r):zhi ps Sp rp K O (ztt ps rp Sp K O):=by
 unfold ztt;rw[dif_pos h];exact h.choose_spec
structure Mod (s:B8)(rs:List PR)(limit:Nat)(S:B8->Nat)(m:Nat)(r:Option (List (Th × Nat))):Prop where
 valid:qH (rs.map (·.R)) S
 low:zuu (rs.map (·.R)) S
 count:vY (zF s).2 S m
 gJ:jL rs S limit m 0 [] r
variable {m:Nat}
theorem Mod.GO (cT:∀ r∈rs,r.bs.map (·.1)=r.R.body)(h:Mod s rs limit S m (some K)):∃ n,m<=n/\zwy rs S n 1 K:=z5o (λ r hr=>h.valid r.R (List.mem_map_of_mem hr)) cT h.gJ (yda _ _) K rfl
theorem Mod.ti (hg:∀ r∈rs,j0 (zF s).2 r)(h:Mod s rs limit S m (some K)):∀ p∈K,eE (zF s).2 p.1:=zyf (zez hg) h.gJ (by simp) K rfl
theorem Mod.cX (cT:∀ r∈rs,r.bs.map (·.1)=r.R.body)(hg:∀ r∈rs,j0 (zF s).2 r)(h:Mod s rs limit S m (some K))(hO:O.Perm (K.map (zir S)))(cC:O.Pairwise λ p q=>xX p q=true):zhi (zF s).2 S rs K O (ztt (zF s).2 rs S K O):=by
 obtain⟨n,_,hw⟩:=h.GO cT;exact ycq (yc9 hg (h.ti hg) hw hO cC)
theorem zay (h:aY s xb w lo rs)(q:B8)(hq:q.size<=2000000)(limit:Int):Calls Tryz.prog 20 #[.pointer (some ⟨xb,0,none⟩),.string q,.int .i64 limit] w λ e w'=>zkw w rs (zF s).2 q limit w' e/\Below w.heap.size w w':=by
 have hg:=qR h.ok;have hr:=h.rules;have eL:=h.cg;obtain⟨f0,bO,jd⟩:=hg.some_;have ak:∀ r∈rs,r.R∈(zJ s).2.2.1:=λ r dH=>by rw[<-hr];exact List.mem_map_of_mem dH
 have oi:∀ r∈rs,∀ x∈r.bs,x.1∈r.R.body:=λ r dH x hx=>by rw[<-eL r dH];exact List.mem_map_of_mem hx
 have hl:rs.length<=30:=by have:=hg.len;rw[<-hr,List.length_map] at this;exact this
 exact z0b w lo xb rs (zF s).2 q limit (eE (zF s).2) hq h.prog hl (λ r dH=>by have:=hg.body r.R (ak r dH);rw[<-eL r dH,List.length_map] at this;exact this) (λ r dH=>hg.pd r.R (ak r dH)) (λ r dH x hx=>hg.C9 r.R (ak r dH) x.1 (oi r dH x hx)) (by rw[hr];exact hg.agree) (by rw[hr];exact hg.met) (by have:=hg.ft;omega) (λ r dH=>⟨(hg.named r.R (ak r dH)).1,λ x hx=>(hg.named r.R (ak r dH)).2 x.1 (oi r dH x hx)⟩) f0 (by rw[hr];exact bO) jd (zez h.dh) (λ t ht=>yav ht)
theorem zcl (h:aY s xb w lo rs)(q:B8)(hq:q.size<=2000000)(limit:Int):Calls Tryz.prog 26 #[.pointer (some ⟨xb,0,none⟩),.string q,.int .i64 limit] w λ e w'=>zkc w rs (zF s).2 q limit (ztt (zF s).2 rs) w' e/\Below w.heap.size w w':=by
 have hg:=qR h.ok;have hr:=h.rules;have eL:=h.cg;obtain⟨f0,bO,jd⟩:=hg.some_;have ak:∀ r∈rs,r.R∈(zJ s).2.2.1:=λ r dH=>by rw[<-hr];exact List.mem_map_of_mem dH
 have oi:∀ r∈rs,∀ x∈r.bs,x.1∈r.R.body:=λ r dH x hx=>by rw[<-eL r dH];exact List.mem_map_of_mem hx
 have hl:rs.length<=30:=by have:=hg.len;rw[<-hr,List.length_map] at this;exact this
 exact z8k w lo xb rs (zF s).2 q limit (ztt (zF s).2 rs) hq h.prog hl (λ r dH=>by have:=hg.body r.R (ak r dH);rw[<-eL r dH,List.length_map] at this;exact this) (λ r dH=>hg.pd r.R (ak r dH)) (λ r dH x hx=>hg.C9 r.R (ak r dH) x.1 (oi r dH x hx)) (by rw[hr];exact hg.agree) (by rw[hr];exact hg.met) (by have:=hg.ft;omega) (λ r dH=>⟨(hg.named r.R (ak r dH)).1,λ x hx=>(hg.named r.R (ak r dH)).2 x.1 (oi r dH x hx)⟩) f0 (by rw[hr];exact bO) jd (zez h.dh) h.dh zw1 (λ _ Sp m K sS uB hc dj O hO cC=>Mod.cX eL h.dh ⟨sS,uB,hc,dj⟩ hO cC)
variable {e:Ending} {t:Th} {q:B8}
theorem z19 (h:aY s xb w lo rs)(hM:Mod s rs limit S m (some K))(ht:vF (zF s).2 q=some t){bs:List Nat}(hE:z6r s q bs e):∃ v:Nat,e=.returned (.int .i64 (v:Nat))/\(v=1\/v=2\/v=3)/\(v=1->t∈K.map (·.1))/\(v=2->t∉K.map (·.1)):=by
 rcases hE with⟨hn,_⟩ | ⟨_,rp,bE,cT,hE⟩
 ·rw[h.ok] at hn;cases hn
 ·rcases hE with⟨hn,_⟩ | ⟨t',Sp,sN,sS,uB,hE⟩
  ·rw[ht] at hn;cases hn
  ·rw[ht] at sN;obtain rfl:=Option.some.inj sN;have jg:xN rs rp:=⟨λ R=>by rw[h.rules,bE],h.cg,cT⟩;obtain rfl:S=Sp:=zfv jg.mem hM.valid hM.low sS uB;rcases hE with⟨m',k,st,lY,hR,rfl⟩ | ⟨_,rfl⟩
   ·obtain rfl:=zbs hM.count lY;have hg:=(zfl h.ok bE cT).dh;obtain⟨h1,h2⟩:=zv3 sS cT hg lY hR (NJ jg hM.gJ);refine⟨_,rfl,?_,λ e=>?_,λ e=>?_⟩
    ·unfold zgg;split
     ·exact .inl rfl
     ·split
      ·exact .inr (.inr rfl)
      ·exact .inr (.inl rfl)
    ·unfold zgg at e
     split at e
     ·rename_i ak;exact h1 t ak
     ·split at e <;> cases e
    ·unfold zgg at e
     split at e
     ·cases e
     ·rename_i l6
      split at e
      ·cases e
      ·rename_i hk;intro ak;refine l6 (h2 t ak ?_);obtain⟨p,hp,rfl⟩:=List.mem_map.1 ak;have hn:=(hM.ti h.dh p hp).num;have qk:(zV (zF s).2 p.1.p).isSome=true:=(by rw[show p.1.p=p.1.1 from rfl,hn];rfl);exact Nat.lt_of_not_le λ hle=>hk ⟨qk,hle⟩
   ·exact⟨3,rfl,.inr (.inr rfl),(λ e=>by cases e),(λ e=>by cases e)⟩
theorem z0o {r q:PR}(h1:zM r.bs=zM q.bs)(h2:vV r.bs=vV q.bs)(h3:jB r=jB q)(N:List (Th × Nat))(t:Th):zar N r t=zar N q t:=by
 unfold zar;rw[h1,h2,h3]
theorem zk0 (hm:rs.map (·.R)=rp.map (·.R))(ha:∀ r∈rs,r.bs.map (·.1)=r.R.body)(hb:∀ r∈rp,r.bs.map (·.1)=r.R.body){rea:Nat->Nat × List Nat}(h:zhi ps S rs K O rea):zhi ps S rp K O rea:=by
 have hlen:rs.length=rp.length:=by have:=congrArg List.length hm;rwa [List.length_map,List.length_map] at this
 have gT:∀ (i:Nat) (h1:i<rs.length) (h2:i<rp.length) (N:List (Th × Nat)) (t:Th),zar N rs[i] t=zar N rp[i] t:=λ i h1 h2 N t=>by
  have e:rs[i].R=rp[i].R:=by
   have:=congrArg (λ l=>l[i]?) hm;simp only[List.getElem?_map,List.getElem?_eq_getElem h1,List.getElem?_eq_getElem h2,Option.map_some] at this;exact Option.some.inj this
  exact z0o (yan (ha _ (List.getElem_mem h1)) (hb _ (List.getElem_mem h2)) e) (yak (ha _ (List.getElem_mem h1)) (hb _ (List.getElem_mem h2)) e) (yec e) N t
 refine⟨h.perm,λ i hi=>?_,h.len,h.low⟩;have hl:=h.least i hi;have bP:(rea i).1<rp.length:=by have:=hl.lt;omega
 refine⟨λ j hj KP=>?_,bP,?_,λ row hr=>?_⟩
 ·rw[<-gT j (by omega) hj];exact hl.low j (by omega) KP
 ·rw[<-gT _ hl.lt bP];exact hl.mem
 ·rw[<-gT _ hl.lt bP] at hr;exact hl.least row hr
theorem zy1 (h:aY s xb w lo rs)(hl:limit<=50)(hM:Mod s rs limit S m (some K))(hlen:K.length<=limit)(ht:vF (zF s).2 q=some t)(hO:O.Perm (K.map (zir S)))(cC:O.Pairwise λ p q=>xX p q=true)(hE:z6r s q (zc5 (zF s).2 S K t (ztt (zF s).2 rs S K O) O) e):e=.returned (.int .i64 ((if (zU K t).isSome then 1 else 2:Nat):Nat)):=by
 rcases hE with⟨hn,_⟩ | ⟨_,rp,bE,cT,hE⟩
 ·rw[h.ok] at hn;cases hn
 ·rcases hE with⟨hn,_⟩ | ⟨t',Sp,sN,sS,uB,hE⟩
  ·rw[ht] at hn;cases hn
  ·rw[ht] at sN;obtain rfl:=Option.some.inj sN;have jg:xN rs rp:=⟨λ R=>by rw[h.rules,bE],h.cg,cT⟩;obtain rfl:S=Sp:=zfv jg.mem hM.valid hM.low sS uB;have hg:=(zfl h.ok bE cT).dh;have hA:=zk0 (h.rules.trans bE.symm) h.cg cT (hM.cX h.cg h.dh hO cC);have wU:Mod s rp limit S m (some K):=⟨sS,uB,hM.count,NJ jg hM.gJ⟩;obtain⟨n,hn,hw⟩:=wU.GO cT;obtain⟨st,hR,ak,dj⟩:=z6e (λ r hr=>sS r.R (List.mem_map_of_mem hr)) cT hg hM.count hn hw (wU.ti hg) (by omega) hA t;rcases hE with⟨m',k,fF,lY,qf,rfl⟩ | ⟨cP,_⟩
   ·obtain rfl:=zbs hM.count lY;obtain⟨rfl,rfl⟩:=hR.uniq qf;have key:zgg (zF s).2 S (xQ (zF s).2 S K t) (st.map (·.t)) t=if (zU K t).isSome then 1 else 2:=by
     by_cases hk:t∈K.map (·.1)
     ·unfold zgg;rw[if_pos (dj hk),if_pos (yO.2 hk)]
     ·have hl:¬ (zU K t).isSome=true:=λ hx=>hk (yO.1 hx)
      have hc:¬ ((zV (zF s).2 t.p).isSome=true/\xQ (zF s).2 S K t<=S t.p):=by
       rintro⟨h1,h2⟩;have IC:(zV (zF s).2 t.1).isSome=true:=h1;unfold xQ at h2;rw[if_pos IC,if_neg hl] at h2;have rX:S t.1+1<=S t.1:=h2;omega
      unfold zgg;rw[if_neg (λ hx=>hk (ak t hx)),if_neg hc,if_neg hl]
    rw[key]
   ·exact absurd hR (cP _ _ _ hM.count)
end
end Go.Proofs.YtldkpahaocjdpaaGreat
