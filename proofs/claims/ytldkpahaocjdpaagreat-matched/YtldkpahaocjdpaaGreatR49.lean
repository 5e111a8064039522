/-
  Plain: texts of any list of lines; the names of what follows.
-/
import Derived.Test.YtldkpahaocjdpaaGreatR48
set_option maxHeartbeats 16000000
set_option maxRecDepth 1000000
namespace Go.Proofs.YtldkpahaocjdpaaGreat
section
def zkf (Ls:List KL):List UInt8:=Ls.flatMap eT
theorem zlq:∀ Ls:List KL,(zkf Ls).length<=40*Ls.length
 | []=>Nat.zero_le _
 | L::r=>by
  have h1:=zlp L;have h2:=zlq r;unfold zkf at *;rw[List.flatMap_cons,List.length_append,List.length_cons];omega
variable {Ls:List KL}
theorem zzs (h:Ls≠[]):zkf Ls=zcy (vN [32] [] (Ls.map KL.rule))++[32]:=by
 rw[zfz [32] (Ls.map KL.rule) []]
 cases Ls with
 | nil=>exact absurd rfl h
 | cons L r=>
  unfold zkf;simp only[List.map_cons,List.nil_append,List.append_nil,List.flatMap_cons,List.flatMap_map];rfl
theorem zxs (h0:Ls≠[])(hn:Ls.length<=18)(hL:∀ L∈Ls,L.Ok):z7 (aC (zkf Ls))=(true,0,0)/\(zJ (aC (zkf Ls))).2.2.1=Ls.map KL.rule:=by
 have hb:∀ c∈[(32:UInt8)],yG c.toNat=true:=λ c hc=>zr5 c (.inl (List.mem_singleton.1 hc))
 have bh:∀ R∈Ls.map KL.rule,zeu (λ _=>2) pT R/\zgv R:=λ R hR=>by
  obtain⟨L,hm,rfl⟩:=List.mem_map.1 hR;exact⟨KL.ic (hL L hm),KL.words _⟩
 refine zgd hb (by simp) hb (ar:=λ _=>2) (lv:=pT) ?_ (λ R hR=>(bh R hR).1) (λ R hR=>(bh R hR).2) ?_ (zzs h0)
 ·rw[jO];have:=zlq Ls;omega
 ·rw[List.length_map];omega
def ye2 (x:B8):Prop:=∃ i,i<4/\x=yJ (nmU i)
theorem yb9 (k:Nat):ye2 (yJ (nmU k)):=by
 match k with
 | 0=>exact⟨0,by decide,rfl⟩
 | 1=>exact⟨1,by decide,rfl⟩
 | 2=>exact⟨2,by decide,rfl⟩
 | 3=>exact⟨3,by decide,rfl⟩
 | k+4=>exact⟨0,by decide,rfl⟩
def NmK (s:B8):Prop:=∀ R∈(zJ s).2.2.1,∀ t∈R.ts,t.1=false->ye2 t.2
theorem KL.nm (L:KL):∀ t∈L.rule.ts,t.1=false->ye2 t.2:=by
 cases L with
 | fact i j=>exact yW (λ _=>yb9 _) (λ _=>yb9 _)
 | rev h q x y=>exact yW (λ h=>by cases h) (λ h=>by cases h)
 | join h q r x y z=>exact yW (λ h=>by cases h) (λ h=>by cases h)
 | minus h q r x y=>exact yW (λ h=>by cases h) (λ h=>by cases h)
 | sX h q r x y n m=>exact yW (λ h=>by cases h) (λ _=>yb9 _)
theorem OD (h0:Ls≠[])(hn:Ls.length<=18)(hL:∀ L∈Ls,L.Ok):zro (zF (aC (zkf Ls))).2:=by
 obtain⟨h1,h2⟩:=zxs h0 hn hL;have hg:=qR (s:=aC (zkf Ls)) (by rw[h1]);intro k m hk;rw[<-hg.met,h2] at hk;rcases zkp _ _ _ _ hk with h | h
 ·cases h
 ·obtain⟨R,hR,hx⟩:=List.mem_flatMap.1 h;obtain⟨L,hm,rfl⟩:=List.mem_map.1 hR;exact KL.atoms (hL L hm) _ hx
theorem z7u (h0:Ls≠[])(hn:Ls.length<=18)(hL:∀ L∈Ls,L.Ok):ydw (aC (zkf Ls))/\NmK (aC (zkf Ls)):=by
 obtain⟨h1,h2⟩:=zxs h0 hn hL;refine⟨⟨h1,?_,OD h0 hn hL,pT,λ R hR=>?_,λ k=>?_⟩,λ R hR=>?_⟩
 ·have:=zlq Ls;rw[jO];unfold maxLen;omega
 ·rw[h2] at hR;obtain⟨L,hm,rfl⟩:=List.mem_map.1 hR;have ho:=KL.ic (hL L hm);intro l hl;have h1:=ho.pos l hl;have h2:=ho.neg l hl
  split
  ·rename_i h;have:=h2 h;omega
  ·omega
 ·unfold pT
  split
  ·omega
  ·split
   ·omega
   ·split <;> omega
 ·rw[h2] at hR;obtain⟨L,hm,rfl⟩:=List.mem_map.1 hR;exact L.nm
theorem z01 (L:Nat->KL)(n:Nat):aW L n=zkf (.fact 0 1::(List.range n).map L):=by
 unfold aW zkf;rw[List.flatMap_cons,List.flatMap_map];rfl
theorem z9h (R:Nat->Raw)(n:Nat):∀ L∈KL.fact 0 1::(List.range n).map (λ i=>aZ (R i)),L.Ok:=λ L hL=>by
 rcases List.mem_cons.1 hL with rfl | hL
 ·exact⟨by decide,by decide⟩
 ·obtain⟨i,_,rfl⟩:=List.mem_map.1 hL;exact zhx _ _ _ _
theorem yca (R:Nat->Raw){n:Nat}(hn:n<=14):NmK (aC (aW (λ i=>aZ (R i)) n)):=by
 rw[z01];exact (z7u (by simp) (by simp;omega) (z9h R n)).2
def ydg (P:B8->Prop)(e:zY):Prop:=∀ v x,pAt e v=some x->P x
variable {P:B8->Prop}
theorem yfp {e e':zY}{t:zca}{n:B8}(hn:P n)(he:ydg P e)(h:pmT e t n=some e'):ydg P e':=by
 unfold pmT at h
 split at h
 ·unfold pmB at h
  split at h
  ·split at h
   ·cases h;exact he
   ·cases h
  ·cases h
   intro v x hx;rw[ER] at hx
   split at hx
   ·rename_i y hy
    cases hx
    exact he v _ hy
   ·split at hx
    ·cases hx;exact hn
    ·cases hx
 ·split at h
  ·cases h;exact he
  ·cases h
theorem yam {P:B8->Prop}:∀ (ts:List zca) (ns:List B8) (e e':zY),ts.length=ns.length->(∀ x∈ns,P x)->ydg P e->zem e ts ns=some e'->ydg P e'
 | [],_,e,e',_,_,he,h=>by rw[zem] at h;cases h;exact he
 | t::ts,[],_,_,hl,_,_,_=>by cases hl
 | t::ts,n::ns,e,e',hl,hn,he,h=>by
  rw[zem] at h;simp only[List.headD_cons,List.tail_cons] at h
  cases h1:pmT e t n with
  | none=>rw[h1] at h;cases h
  | some e1=>
   rw[h1] at h;exact yam ts ns e1 e' (by simpa using hl) (λ x hx=>hn x (List.mem_cons_of_mem _ hx)) (yfp (hn n List.mem_cons_self) he h1) h
theorem zo9 {P:B8->Prop}{ps:P9}{K:List (Th × Nat)}(hK:∀ p∈K,eE ps p.1/\∀ x∈p.1.2,P x):∀ (pos:List xG) (e0 e:zY),(∀ a∈pos,zpv ps a)->ydg P e0->e∈zR K pos e0->ydg P e
 | [],e0,e,_,he,h=>by
  rw[zR] at h;rw[List.mem_singleton.1 h];exact he
 | a::r,e0,e,ha,he,h=>by
  rw[zR] at h;obtain⟨p,hp,h⟩:=List.mem_flatMap.1 h
  cases hm:yC e0 a p.1 with
  | none=>rw[hm] at h;simp at h
  | some e1=>
   rw[hm] at h;refine zo9 hK r e1 e (λ x hx=>ha x (List.mem_cons_of_mem _ hx)) ?_ h;unfold yC at hm
   split at hm
   ·rename_i c;have gG:a.p=p.1.1:=yB.1 c;have hl:a.ts.length=p.1.2.length:=by
     have h1:=(ha a List.mem_cons_self).num;rw[gG,(hK p hp).1.num] at h1;exact (Option.some.inj h1).symm
    exact yam a.ts p.1.2 e0 e1 hl (hK p hp).2 he hm
   ·cases hm
variable {rs:List PR}
theorem z7b {ps:P9}(h:∀ r∈rs,j0 ps r)(hc:∀ r∈rs,∀ t∈r.R.ts,t.1=false->P t.2):fI rs (λ t=>eE ps t/\∀ x∈t.2,P x):=λ K hK r hr=>by
 have hC:=zez h K (λ p hp=>(hK p hp).1) r hr;refine⟨hC.1,λ e he=>⟨hC.2 e he,λ x hx=>?_⟩⟩;have hE:=zo9 hK (zM r.bs) [] e (h r hr).pos (λ v x hx=>by cases hx) he;obtain⟨_,b⟩:=zcm (λ p hp=>(hK p hp).1) (zM r.bs) [] e (h r hr).pos zp8 he;obtain⟨t,ht,rfl⟩:=List.mem_map.1 hx;unfold cd
 split
 ·rename_i hv;obtain⟨a,ha,zu⟩:=(h r hr).mP t ht hv;obtain⟨y,hy⟩:=b a ha t zu hv;unfold dR;rw[hy];exact hE _ _ hy
 ·rename_i hv;exact hc r hr t ht (by simpa using hv)
variable {K:List (Th × Nat)} {m limit lo xb:Nat} {S:B8->Nat} {w:W8} {s:B8}
theorem Mod.nm (hP:aY s xb w lo rs)(hn:NmK s)(hM:Mod s rs limit S m (some K)):∀ p∈K,eE (zF s).2 p.1/\∀ x∈p.1.2,ye2 x:=
 zyf (z7b hP.dh λ r hr=>hn r.R (by rw[<-hP.rules];exact List.mem_map_of_mem hr)) hM.gJ (by simp) K rfl
theorem yau {p i j:Nat}(hp:p<4)(hi:i<4)(hj:j<4):16*p+4*i+j<64/\thX (16*p+4*i+j)=thK p i j:=by
 have h1:(16*p+4*i+j)/16=p:=by omega
 have h2:(16*p+4*i+j)%16/4=i:=by omega
 have h3:(16*p+4*i+j)%16%4=j:=by omega
 refine⟨by omega,?_⟩;unfold thX;rw[h1,h2,h3]
theorem Mod.vc (hP:aY s xb w lo rs)(h2:zro (zF s).2)(hn:NmK s)(hM:Mod s rs limit S m (some K)):∀ p∈K,∃ x,x<64/\p.1=thX x:=λ p hp=>by
 obtain⟨hI,hx⟩:=hM.nm hP hn p hp;obtain⟨hl,i,hi,he⟩:=h2 _ _ hI.num;obtain⟨⟨pd,ts⟩,n⟩:=p;obtain⟨a,b,rfl⟩:∃ a b,ts=[a,b]:=by
  match ts,hl with
  | [a,b],_=>exact⟨a,b,rfl⟩
 obtain⟨u,hu,rfl⟩:=hx a List.mem_cons_self;obtain⟨v,hv,rfl⟩:=hx b (List.mem_cons_of_mem _ List.mem_cons_self);have he:pd=fl i:=he;subst he;exact⟨_,(yau hi hu hv).1,((yau hi hu hv).2).symm⟩
end
section
open Go.RowKit
def zrp (K:List (Th × Nat))(A:xG):List B8:=(zbe ((K.filter (zg3 A)).map λ p=>yF p.1)).map aC
variable {K:List (Th × Nat)}
theorem z2v {K':List (Th × Nat)}(h:K.Perm K')(A:xG):zrp K A=zrp K' A:=by
 unfold zrp;rw[zf6 ((h.filter _).map _)]
variable {rs:List PR} {s:B8}
theorem ztq {w w':W8}{q:B8}{limit:Nat}(jz:1<=limit)(hl:limit<=50){A:xG}(hA:vC (zF s).2 q=some A){e:Ending}(hE:zkw w rs (zF s).2 q (limit:Nat) w' e):
  (∃ S m,Mod s rs limit S m none/\e=.returned (.tuple #[.slice none 0 0,.int .i64 7]))\/∃ S m K a c,Mod s rs limit S m (some K)/\(K.map (·.1)).Nodup/\e=.returned (.tuple #[.slice a (zrp K A).length c,.int .i64 0])/\qd w' a c (zrp K A):=by
 have oo:qY (limit:Nat)=true:=by unfold qY;simp;omega
 have Ds:((limit:Nat):Int).toNat=limit:=by simp
 cases hE with
 | arg h=>rw[oo] at h;cases h
 | ask _ hn=>rw[hA] at hn;cases hn
 | fk _ h1 hv fN hc dj=>
  rw[Ds] at dj;exact .inl ⟨_,_,⟨hv,fN,hc,dj⟩,rfl⟩
 | @yes A' S m K ys a c _ h1 hv fN hc dj dB dC aE=>
  rw[Ds] at dj;rw[hA] at h1;obtain rfl:=Option.some.inj h1;have Dz:(zbe ys).map aC=zrp K A:=by unfold zrp;rw[zf6 dC]
  have Dy:ys.length=(zrp K A).length:=by rw[<-Dz,zih]
  rw[z2i,Dz,Dy] at aE;exact .inr ⟨S,m,K,a,c,⟨hv,fN,hc,dj⟩,dB,by rw[Dy],qd.ib aE⟩
theorem zck {L:List (Th × Nat)}(hk:qA K L){t:Th}:zkb rs K t->zkb rs L t:=λ ⟨h1,r,hr,e,he,hf⟩=>by
 refine⟨?_,r,hr,e,(hk.ways _ _ _ _).1 he,hf⟩;have:=hk.look t;rw[h1] at this
 cases hl:zU L t with
 | none=>rfl
 | some n=>rw[hl] at this;cases this
variable {r:Option (List (Th × Nat))} {n:Nat}
theorem zok {limit:Nat}(hc:qT rs limit n K r):∀ K1,r=some K1->K.length<=K1.length:=by
 induction hc with
 | fk _ _ _ _=>intro K1 e;cases e
 | done _=>intro K1 e;obtain rfl:=Option.some.inj e;exact Nat.le_refl _
 | more _ _ _ _ _ _ ih=>
  intro K1 e;have:=ih K1 e;rw[List.length_append] at this;omega
variable {count:Nat} {S:B8->Nat}
theorem z0z {limit s:Nat}(hc:jL rs S limit count s K r):∀ K1,r=some K1->K.length<=K1.length:=by
 induction hc with
 | ends _=>intro K1 e;obtain rfl:=Option.some.inj e;exact Nat.le_refl _
 | fK _ _=>intro K1 e;cases e
 | next _ h2 _ ih=>intro K1 e;exact Nat.le_trans (zok h2 _ rfl) (ih K1 e)
variable {L1:Nat}
theorem zlb (hc:qT rs L1 n K r):∀ {K1:List (Th × Nat)},r=some K1->∀ {L2:Nat} {K':List (Th × Nat)} {r':Option (List (Th × Nat))},K.Perm K'->K.length<=L2->qT rs L2 n K' r'->K.length<=K1.length/\((r'=none/\L2<K1.length)\/∃ K2,r'=some K2/\K1.Perm K2/\K2.length<=L2):=by
 induction hc with
 | fk _ _ _ _=>intro K1 e;cases e
 | @done n K hn=>
  intro K1 e L2 K' r' hp hl hd;obtain rfl:=Option.some.inj e;have hlen:=hp.length_eq;have qk:∀ t,¬ zkb rs K' t:=λ t ht=>hn t (zck (vQ hp.symm) ht)
  refine⟨Nat.le_refl _,?_⟩
  cases hd with
  | fk M _ h2 h3=>
   exfalso
   cases M with
   | nil=>simp at h3;omega
   | cons t q=>exact qk t (h2 t List.mem_cons_self)
  | done _=>exact .inr ⟨_,rfl,hp,by omega⟩
  | @more _ _ L1 _ h1 _ _ h4 _ _=>
   exfalso
   cases L1 with
   | nil=>exact h1 rfl
   | cons p q=>exact qk p.1 ((h4 p.1).1 ⟨p.2,List.mem_cons_self⟩)
 | @more n K L0 r h1 h2 h3 h4 h5 hc ih=>
  intro K1 e L2 K' r' hp hl hd;have hlen:=hp.length_eq
  by_cases fq:K.length+L0.length<=L2
  ·cases hd with
   | fk M fa eG ey=>
    exfalso
    have:=zq1 fa (λ t ht=>zck (vQ hp.symm) (eG t ht)) h4;omega
   | done hn=>
    exfalso
    cases L0 with
    | nil=>exact h1 rfl
    | cons p q=>exact hn p.1 (zck (vQ hp) ((h4 p.1).1 ⟨p.2,List.mem_cons_self⟩))
   | more g1 g2 g3 g4 g5 gc=>
    have N4:=hp.append (zqx h2 g2 h3 g3 λ t=>by
     rw[h4 t,g4 t]
     exact⟨zck (vQ hp),zck (vQ hp.symm)⟩)
    obtain⟨k1,k2⟩:=ih e N4 (by rw[List.length_append];exact fq) gc;rw[List.length_append] at k1;exact⟨by omega,k2⟩
  ·have hle:K.length+L0.length<=K1.length:=by
    have nk:=zok hc K1 e;rw[List.length_append] at nk;exact nk
   refine⟨by omega,?_⟩
   cases hd with
   | fk _ _ _ _=>exact .inl ⟨rfl,by omega⟩
   | done hn=>
    exfalso
    cases L0 with
    | nil=>exact h1 rfl
    | cons p q=>exact hn p.1 (zck (vQ hp) ((h4 p.1).1 ⟨p.2,List.mem_cons_self⟩))
   | more g1 g2 g3 g4 g5 gc=>
    exfalso
    have N4:=(zqx h2 g2 h3 g3 λ t=>by
     rw[h4 t,g4 t]
     exact⟨zck (vQ hp),zck (vQ hp.symm)⟩).length_eq
    omega
theorem zwe {s:Nat}(hc:jL rs S L1 count s K r):∀ {K1:List (Th × Nat)},r=some K1->∀ {L2:Nat} {K':List (Th × Nat)} {r':Option (List (Th × Nat))},K.Perm K'->K.length<=L2->jL rs S L2 count s K' r'->(r'=none/\L2<K1.length)\/∃ K2,r'=some K2/\K1.Perm K2/\K2.length<=L2:=by
 induction hc with
 | ends h1=>
  intro K1 e L2 K' r' hp hl hd;obtain rfl:=Option.some.inj e;have hlen:=hp.length_eq
  cases hd with
  | ends _=>exact .inr ⟨_,rfl,hp,by omega⟩
  | fK h2 _=>omega
  | next h2 _ _=>omega
 | fK _ _=>intro K1 e;cases e
 | next h1 h2 h3 ih=>
  intro K1 e L2 K' r' hp hl hd
  cases hd with
  | ends _=>omega
  | fK _ g2=>
   obtain⟨_,⟨_,h⟩ | ⟨_,h,_⟩⟩:=zlb h2 rfl hp hl g2
   ·exact .inl ⟨rfl,Nat.lt_of_lt_of_le h (z0z h3 K1 e)⟩
   ·cases h
  | next _ g2 g3=>
   obtain⟨_,⟨h,_⟩ | ⟨K2,h,nG,lG⟩⟩:=zlb h2 rfl hp hl g2
   ·cases h
   ·obtain rfl:=Option.some.inj h;exact ih e nG (by rw[nG.length_eq];exact lG) g3
theorem Mod.limit {L2:Nat}{S':B8->Nat}{m m':Nat}(h:Mod s rs L1 S m (some K))(h':Mod s rs L2 S' m' r):(r=none/\L2<K.length)\/∃ K2,r=some K2/\K.Perm K2/\K2.length<=L2:=by
 obtain rfl:=zfv (λ R=>Iff.rfl) h.valid h.low h'.valid h'.low;obtain rfl:=zbs h.count h'.count;exact zwe h.gJ rfl (List.Perm.refl _) (Nat.zero_le _) h'.gJ
end
section
theorem yew:∀ p,p<4->∀ c,c<16->∀ d,d<16->c<d->[pdU p,40,nmU (c/4),44,nmU (c%4),41]<[pdU p,40,nmU (d/4),44,nmU (d%4),41]:=by decide +kernel
theorem zku (p c:Nat):zP (aM p c)=[pdU p,40,nmU (c/4),44,nmU (c%4),41]:=rfl
theorem zt4 (zs:List B8):(zbe zs).Pairwise λ a b=>a<=b:=by
 unfold zbe
 have:=List.pairwise_mergeSort (le:=λ x y:List UInt8=>decide (x<=y)) (λ a b c h1 h2=>by
  simp only[decide_eq_true_eq] at *
  exact List.le_trans h1 h2) (λ a b=>by
  simp only[Bool.or_eq_true,decide_eq_true_eq]
  exact List.le_total a b) (zs.map λ s=>s.data.toList)
 exact this.imp λ h=>by simpa using h
theorem zri (x:Nat):tQ (thX x):=z04 (zui (ps:=[]) (λ k n h=>by cases h) x)
variable {p c:Nat}
theorem zwl (hc:c<16):yF (thX (16*p+c))=aM p c:=by
 rw[zyk,show (16*p+c)/16=p by omega,show (16*p+c)%16=c by omega]
def dM (K:List (Th × Nat))(p c:Nat):Bool:=(zU K (thX (16*p+c))).isSome
variable {K:List (Th × Nat)}
theorem zll (dB:(K.map (·.1)).Nodup)(kD:∀ k∈K,∃ x,x<64/\k.1=thX x){A:xG}(hp:p<4){B:Nat->Bool}(hA:∀ x,x<64->∀ n,zg3 A (thX x,n)=true↔(x/16=p/\B (x%16)=true)):zrp K A=((List.range 16).filter λ c=>dM K p c&&B c).map (aM p):=by
 have key:zbe ((K.filter (zg3 A)).map λ k=>yF k.1)=((List.range 16).filter λ c=>dM K p c&&B c).map λ c=>zP (aM p c):=by
  refine List.Perm.eq_of_pairwise (le:=λ a b=>a<=b) (λ a b _ _ h1 h2=>List.le_antisymm h1 h2) (zt4 _) ?_ ?_
  ·refine List.pairwise_map.2 (List.Pairwise.filter _ (List.Pairwise.imp_of_mem (λ {a b} ha hb h=>?_) List.pairwise_lt_range));rw[zku,zku];exact List.le_of_lt (yew p hp a (List.mem_range.1 ha) b (List.mem_range.1 hb) h)
  ·refine (show (zbe ((K.filter (zg3 A)).map λ k=>yF k.1)).Perm (((K.filter (zg3 A)).map λ k=>yF k.1).map λ s=>s.data.toList) from List.mergeSort_perm _ _).trans ?_;rw[List.map_map];refine (List.perm_ext_iff_of_nodup ?_ ?_).2 λ z=>?_
   ·have h1:((K.filter (zg3 A)).map (·.1)).Nodup:=List.Nodup.sublist (List.Sublist.map _ List.filter_sublist) dB;refine List.pairwise_map.2 ((List.pairwise_map.1 h1).imp_of_mem λ {a b} ha hb bG e=>bG ?_);obtain⟨x,_,hx⟩:=kD a (List.mem_filter.1 ha).1;obtain⟨y,_,hy⟩:=kD b (List.mem_filter.1 hb).1;have e:zP (yF a.1)=zP (yF b.1):=e;rw[hx,hy] at e ⊢;refine zjp (zri x) (zri y) ?_;have:=congrArg aC e
    rwa [show aC (zP (yF (thX x)))=_ from zdt _,show aC (zP (yF (thX y)))=_ from zdt _] at this
   ·refine List.pairwise_map.2 (List.Pairwise.filter _ (List.Pairwise.imp_of_mem (λ {a b} ha hb h e=>?_) List.pairwise_lt_range));rw[zku,zku] at e;have:=yew p hp a (List.mem_range.1 ha) b (List.mem_range.1 hb) h;rw[e] at this;exact List.lt_irrefl _ this
   ·rw[List.mem_map,List.mem_map]
    constructor
    ·rintro⟨k,hk,rfl⟩;obtain⟨de,cN⟩:=List.mem_filter.1 hk;obtain⟨x,hx,e⟩:=kD k de;obtain⟨t,n⟩:=k;have e:t=thX x:=e;subst e;obtain⟨h1,h2⟩:=(hA x hx n).1 cN;have pL:16*p+x%16=x:=(by omega);refine⟨x%16,List.mem_filter.2 ⟨List.mem_range.2 (Nat.mod_lt _ (by decide)),?_⟩,?_⟩
     ·have:dM K p (x%16)=true:=by
       unfold dM;rw[pL];exact yO.2 (List.mem_map.2 ⟨_,de,rfl⟩)
      rw[this,h2];rfl
     ·show zP (aM p (x%16))=zP (yF (thX x))
      rw[<-zwl (Nat.mod_lt _ (by decide)),pL]
    ·rintro⟨c,hc,rfl⟩;obtain⟨mC,nA⟩:=List.mem_filter.1 hc;have mC:=List.mem_range.1 mC;rw[Bool.and_eq_true] at nA;have hm:thX (16*p+c)∈K.map (·.1):=yO.1 nA.1;obtain⟨k,hk,e⟩:=List.mem_map.1 hm;obtain⟨t,n⟩:=k;have e:t=thX (16*p+c):=e;subst e;refine⟨_,List.mem_filter.2 ⟨hk,(hA _ (by omega) n).2 ⟨by omega,?_⟩⟩,?_⟩
     ·rw[show (16*p+c)%16=c by omega];exact nA.2
     ·show zP (yF (thX (16*p+c)))=_
      rw[zwl mC]
 unfold zrp;rw[key,List.map_map];refine List.map_congr_left λ c _=>?_
 show aC (zP (aM p c))=aM p c
 exact zdt _
theorem ybe (h:∀ k∈K,∃ x,x<64/\k.1=thX x):(zm1 K 4).length=K.length:=by
 have hz:∀ k,(dT K k).length=(K.filter (zg3 (zyw k))).length:=λ k=>by unfold dT;rw[zih,List.length_map]
 have bh:zm1 K 4=dT K 0++dT K 1++dT K 2++dT K 3:=by
  rw[Er,Er,Er,Er];rfl
 rw[bh];simp only[List.length_append,hz];clear bh hz
 induction K with
 | nil=>rfl
 | cons k r ih=>
  have ih:=ih λ x hx=>h x (List.mem_cons_of_mem _ hx)
  obtain⟨x,hx,e⟩:=h k List.mem_cons_self;obtain⟨t,n⟩:=k;have e:t=thX x:=e;subst e;have CF:∀ j,j<4->zg3 (zyw j) (thX x,n)=decide (x/16=j):=λ j hj=>by
   rw[Bool.eq_iff_iff,yed (t:=thX x) rfl n,decide_eq_true_eq]
   show fl (x/16)=fl j↔_
   have eN:∀ a,a<4->∀ b,b<4->(fl a=fl b↔a=b):=(by decide);exact eN _ (by omega) j hj
  simp only[List.filter_cons,CF 0 (by decide),CF 1 (by decide),CF 2 (by decide),CF 3 (by decide),List.length_cons];have h4:x/16=0\/x/16=1\/x/16=2\/x/16=3:=by omega
  rcases h4 with h4 | h4 | h4 | h4 <;> rw[h4] <;> simp <;> omega
theorem z63 {s:B8}{rs:List PR}(h2:zro (zF s).2)(hg:∀ r∈rs,j0 (zF s).2 r){limit:Nat}{S:B8->Nat}{m:Nat}(hM:Mod s rs limit S m (some K))(hc:c<16):zgj (aM p c) (zm1 K 4)=dM K p c:=by
 have:=zyv h2 hg hM (zri (16*p+c))
 rwa [zwl hc] at this
def aB (F:Nat->Bool)(c:Nat):Nat:=((List.range c).filter F).length
theorem zc3 (F:Nat->Bool)(c:Nat):aB F (c+1)=aB F c+if F c then 1 else 0:=by
 unfold aB;rw[List.range_succ,List.filter_append,List.length_append,List.filter_cons]
 split <;> simp
theorem ybj {F:Nat->Bool}{n:Nat}(h:c<n)(hF:F c=true):((List.range n).filter F)[aB F c]?=some c:=by
 obtain⟨d,rfl⟩:∃ d,n=c+(d+1):=⟨n-c-1,by omega⟩;unfold aB;rw[List.range_add,List.filter_append,List.getElem?_append_right L9,Nat.sub_self,List.range_succ_eq_map,List.map_cons,List.filter_cons];simp[hF]
def ye6 (k a:Nat):xG:=⟨fl k,[tN a,(true,yJ 88)]⟩
def ye7 (k a:Nat):xG:=⟨fl k,[(true,yJ 88),tN a]⟩
def ye8 (k:Nat):xG:=⟨fl k,[(true,yJ 88),(true,yJ 88)]⟩
variable {k:Nat} {ps:P9}
theorem zhk (h:zro ps){t u:Bool × B8}{q:B8}(ht:vT (za0 t).1 (za0 t).2)(hu:vT (za0 u).1 (za0 u).2)(hq:zP q=zcy (jW [] (fl k) [t,u])):vC ps q=some ⟨fl k,[t,u]⟩:=by
 have hp:zdd q=some ⟨fl k,[t,u]⟩:=zl4 (zb9 k) (yW ht hu) (by simp) hq;have hs:zb7 ps ⟨fl k,[t,u]⟩=true:=by
  unfold zb7
  cases hn:zV ps (fl k) with
  | none=>rfl
  | some m=>simp only;rw[(h _ _ hn).1];rfl
 unfold vC;rw[hp];simp only;rw[if_pos hs]
theorem z5z:vT (za0 (true,yJ 88)).1 (za0 (true,yJ 88)).2:=zil (by decide)
theorem ydy (h:zro ps)(k a:Nat):vC ps (yJ (pdU k)++{ data:=#[40] }++yJ (nmU a)++{ data:=#[44,88,41] })=some (ye6 k a):=zhk h (zj8 a) z5z (by
 unfold zP yJ;simp only[ByteArray.data_append,Array.toList_append]
 rfl)
theorem ydz (h:zro ps)(k a:Nat):vC ps (yJ (pdU k)++{ data:=#[40,88,44] }++yJ (nmU a)++{ data:=#[41] })=some (ye7 k a):=zhk h z5z (zj8 a) (by
 unfold zP yJ;simp only[ByteArray.data_append,Array.toList_append]
 rfl)
theorem yd0 (h:zro ps)(k:Nat):vC ps (yJ (pdU k)++{ data:=#[40,88,44,88,41] })=some (ye8 k):=zhk h z5z z5z (by
 unfold zP yJ;simp only[ByteArray.data_append,Array.toList_append]
 rfl)
theorem zbm (c d:UInt8):((yJ c).toList==(yJ d).toList)=(c==d):=by
 rw[ByteArray.toList_eq,ByteArray.toList_eq]
 show ([c]==[d])=(c==d)
 simp
theorem zo4:∀ a,a<4->∀ b,b<4->(nmU a==nmU b)=decide (a=b):=by decide
theorem z4h:∀ a,a<4->∀ b,b<4->(pdU a==pdU b)=decide (a=b):=by decide
variable {a:Nat}
theorem yf5 (hk:k<4)(ha:a<4)(x:Nat)(hx:x<64)(n:Nat):zg3 (ye6 k a) (thX x,n)=true↔(x/16=k/\decide (x%16/4=a)=true):=by
 unfold zg3 yC
 show (if (fl k).toList==(fl (x/16)).toList then zem [] [tN a,(true,yJ 88)] [yJ (nmU (x%16/4)),yJ (nmU (x%16%4))] else none).isSome=true↔_
 rw[show ((fl k).toList==(fl (x/16)).toList)=(pdU k==pdU (x/16)) from zbm _ _,z4h k hk _ (by omega)];have h1:pmT [] (tN a) (yJ (nmU (x%16/4)))=if decide (a=x%16/4) then some [] else none:=by
  show (if (yJ (nmU a)).toList==(yJ (nmU (x%16/4))).toList then some [] else none)=_
  rw[zbm,zo4 a ha _ (by omega)]
 rw[zem];simp only[List.headD_cons,List.tail_cons,h1]
 by_cases e1:k=x/16 <;> by_cases e2:a=x%16/4
 ·simp only[e1,e2,decide_true,if_true];refine⟨λ _=>⟨trivial,trivial⟩,λ _=>?_⟩;rfl
 ·rw[if_pos (decide_eq_true e1),if_neg (by simpa using e2)];exact⟨(λ h=>by cases h),λ h=>absurd (of_decide_eq_true h.2).symm e2⟩
 ·rw[if_neg (by simpa using e1)];exact⟨(λ h=>by cases h),λ h=>absurd h.1.symm e1⟩
 ·rw[if_neg (by simpa using e1)];exact⟨(λ h=>by cases h),λ h=>absurd h.1.symm e1⟩
theorem yf6 (hk:k<4)(ha:a<4)(x:Nat)(hx:x<64)(n:Nat):zg3 (ye7 k a) (thX x,n)=true↔(x/16=k/\decide (x%16%4=a)=true):=by
 unfold zg3 yC
 show (if (fl k).toList==(fl (x/16)).toList then zem [] [(true,yJ 88),tN a] [yJ (nmU (x%16/4)),yJ (nmU (x%16%4))] else none).isSome=true↔_
 rw[show ((fl k).toList==(fl (x/16)).toList)=(pdU k==pdU (x/16)) from zbm _ _,z4h k hk _ (by omega)];have h0:pmT [] (true,yJ 88) (yJ (nmU (x%16/4)))=some [(yJ 88,yJ (nmU (x%16/4)))]:=rfl;have h1:pmT [(yJ 88,yJ (nmU (x%16/4)))] (tN a) (yJ (nmU (x%16%4)))=if decide (a=x%16%4) then some [(yJ 88,yJ (nmU (x%16/4)))] else none:=by
  show (if (yJ (nmU a)).toList==(yJ (nmU (x%16%4))).toList then some [(yJ 88,yJ (nmU (x%16/4)))] else none)=_
  rw[zbm,zo4 a ha _ (by omega)]
 rw[zem];simp only[List.headD_cons,List.tail_cons,h0];rw[zem];simp only[List.headD_cons,List.tail_cons,h1]
 by_cases e1:k=x/16 <;> by_cases e2:a=x%16%4
 ·simp only[e1,e2,decide_true,if_true];refine⟨λ _=>⟨trivial,trivial⟩,λ _=>?_⟩;rfl
 ·rw[if_pos (decide_eq_true e1),if_neg (by simpa using e2)];exact⟨(λ h=>by cases h),λ h=>absurd (of_decide_eq_true h.2).symm e2⟩
 ·rw[if_neg (by simpa using e1)];exact⟨(λ h=>by cases h),λ h=>absurd h.1.symm e1⟩
 ·rw[if_neg (by simpa using e1)];exact⟨(λ h=>by cases h),λ h=>absurd h.1.symm e1⟩
theorem yf7 (hk:k<4)(x:Nat)(hx:x<64)(n:Nat):zg3 (ye8 k) (thX x,n)=true↔(x/16=k/\decide (x%16/4=x%16%4)=true):=by
 unfold zg3 yC
 show (if (fl k).toList==(fl (x/16)).toList then zem [] [(true,yJ 88),(true,yJ 88)] [yJ (nmU (x%16/4)),yJ (nmU (x%16%4))] else none).isSome=true↔_
 rw[show ((fl k).toList==(fl (x/16)).toList)=(pdU k==pdU (x/16)) from zbm _ _,z4h k hk _ (by omega)];have h0:pmT [] (true,yJ 88) (yJ (nmU (x%16/4)))=some [(yJ 88,yJ (nmU (x%16/4)))]:=rfl;have h1:pmT [(yJ 88,yJ (nmU (x%16/4)))] (true,yJ 88) (yJ (nmU (x%16%4)))=if decide (x%16/4=x%16%4) then some [(yJ 88,yJ (nmU (x%16/4)))] else none:=by
  have hp:pAt [(yJ 88,yJ (nmU (x%16/4)))] (yJ 88)=some (yJ (nmU (x%16/4))):=by
   rw[pAt,if_pos (yB.2 rfl)]
  unfold pmT pmB;rw[if_pos rfl,hp]
  show (if (yJ (nmU (x%16/4))).toList==(yJ (nmU (x%16%4))).toList then some [(yJ 88,yJ (nmU (x%16/4)))] else none)=_
  rw[zbm,zo4 _ (by omega) _ (by omega)]
 rw[zem];simp only[List.headD_cons,List.tail_cons,h0];rw[zem];simp only[List.headD_cons,List.tail_cons,h1]
 by_cases e1:k=x/16 <;> by_cases e2:x%16/4=x%16%4
 ·simp only[e1,e2,decide_true,if_true];refine⟨λ _=>⟨trivial,trivial⟩,λ _=>?_⟩;rfl
 ·rw[if_pos (decide_eq_true e1),if_neg (by simpa using e2)];exact⟨(λ h=>by cases h),λ h=>absurd (of_decide_eq_true h.2) e2⟩
 ·rw[if_neg (by simpa using e1)];exact⟨(λ h=>by cases h),λ h=>absurd h.1.symm e1⟩
 ·rw[if_neg (by simpa using e1)];exact⟨(λ h=>by cases h),λ h=>absurd h.1.symm e1⟩
end
section
open Go.RowKit Go.Maps
variable {rs:List PR} {lo xb:Nat} {w:W8} {s:B8}
theorem ybt (hP:aY s xb w lo rs){T:Th->Prop}(hM:yff rs T){i j:Nat}(hR:(KL.fact i j).rule∈(zJ s).2.2.1):T (thK 0 i j):=by
 rw[<-hP.rules] at hR;obtain⟨r,hr,e⟩:=List.mem_map.1 hR;have hb:=hP.cg r hr;rw[e] at hb;have hb:r.bs=[]:=by cases hx:r.bs with | nil=>rfl | cons y l=>rw[hx] at hb;simp[KL.rule] at hb
 have h1:zM r.bs=[]:=by rw[hb];rfl
 have h2:vV r.bs=[]:=by rw[hb];rfl
 have h3:jB r=⟨fl 0,[tN i,tN j]⟩:=by unfold jB;rw[e];rfl
 have:=hM.closed r hr [] [] (by rw[h1];rfl) (by simp) (by rw[h2];simp);rw[h3] at this;exact this
variable {e:Ending} {A:xG} {q:B8} {w':W8} {K:List (Th × Nat)} {m:Nat} {S:B8->Nat}
theorem zje (cT:∀ r∈rs,r.bs.map (·.1)=r.R.body)(hK:Mod s rs 50 S m (some K))(hA:vC (zF s).2 q=some A)(hE:zkw w rs (zF s).2 q 50 w' e):∃ a c,e=.returned (.tuple #[.slice a (zrp K A).length c,.int .i64 0])/\qd w' a c (zrp K A):=by
 rcases ztq (limit:=50) (by decide) (by decide) hA hE with⟨S',m',hM,rfl⟩ | ⟨S',m',K',a,c,hM,_,rfl,hT⟩
 ·obtain⟨_,_,⟨e,_⟩ | ⟨_,_,_,e,_,_⟩⟩:=hK.uniq cT hM
  ·cases e
  ·cases e
 ·obtain⟨_,_,⟨e,_⟩ | ⟨_,_,e1,e2,e3,_⟩⟩:=hK.uniq cT hM
  ·cases e
  ·obtain rfl:=Option.some.inj e1;obtain rfl:=Option.some.inj e2;rw[z2v e3];exact⟨a,c,rfl,hT⟩
theorem zpc (hK:Mod s rs 50 S m (some K)){L:Nat}(h1:1<=L)(h2:L<=50)(hA:vC (zF s).2 q=some A)(hE:zkw w rs (zF s).2 q (L:Nat) w' e):(K.length<=L->∃ a n c,e=.returned (.tuple #[.slice a n c,.int .i64 0]))/\(L<K.length->e=.returned (.tuple #[.slice none 0 0,.int .i64 7])):=by
 rcases ztq h1 h2 hA hE with⟨S',m',hM,rfl⟩ | ⟨S',m',K',a,c,hM,_,rfl,hT⟩
 ·refine⟨λ h=>?_,λ _=>rfl⟩;rcases hK.limit hM with⟨_,h3⟩ | ⟨_,e,_⟩
  ·omega
  ·cases e
 ·refine⟨λ _=>⟨a,_,c,rfl⟩,λ h=>?_⟩;rcases hK.limit hM with⟨e,_⟩ | ⟨K2,e,hp,h3⟩
  ·cases e
  ·have:=hp.length_eq;omega
structure ye1 (L:List B8)(p:Nat)(F:Nat->Bool):Prop where
 len:L.length=aB F 16
 at_:∀ c,c<16->F c=true->∃ h:aB F c<L.length,L[aB F c]=aM p c
variable {p:Nat}
theorem zvc {L:List B8}{F:Nat->Bool}(h:L=((List.range 16).filter F).map (aM p)):ye1 L p F:=by
 subst h;refine⟨by rw[List.length_map];rfl,λ c hc hF=>?_⟩;have h1:=ybj hc hF;obtain⟨h2,h3⟩:=List.getElem?_eq_some_iff.1 h1;refine⟨by rw[List.length_map];exact h2,?_⟩;rw[List.getElem_map,h3]
theorem zu2 (F:Nat->Bool)(c:Nat):aB F c<=c:=by
 unfold aB;have:=List.length_filter_le F (List.range c)
 rwa [List.length_range] at this
theorem yev (p i:Nat):yJ (pdU p)++{ data:=#[40] }++yJ (nmU (i/4))++{ data:=#[44] }++yJ (nmU (i%4))++{ data:=#[41] }=aM p i:=by
 apply ByteArray.ext;simp only[ByteArray.data_append];rfl
structure yfy (K:List (Th × Nat))(zs X Y Z:List B8)(p n:Nat)(F1 F2 F3:Nat->Bool):Prop where
 am:∀ c,c<16->zgj (aM p c) zs=dM K p c
 f1:∀ c,F1 c=(dM K p c&&decide (c/4=n))
 f2:∀ c,F2 c=(dM K p c&&decide (c%4=n))
 f3:∀ c,F3 c=(dM K p c&&decide (c/4=c%4))
 x:ye1 X p F1
 y:ye1 Y p F2
 z:ye1 Z p F3
theorem yb5 (hP:aY s xb w lo rs)(h2:zro (zF s).2)(hn:NmK s)(hK:Mod s rs 50 S m (some K)){n:Nat}(hp:p<4)(uJ:n<4):yfy K (zm1 K 4) (zrp K (ye6 p n)) (zrp K (ye7 p n)) (zrp K (ye8 p)) p n (λ c=>dM K p c&&decide (c/4=n)) (λ c=>dM K p c&&decide (c%4=n)) (λ c=>dM K p c&&decide (c/4=c%4)):=by
 obtain⟨_,_,hw⟩:=hK.GO hP.cg;have kD:=hK.vc hP h2 hn;exact⟨λ c hc=>z63 h2 hP.dh hK hc,λ _=>rfl,λ _=>rfl,λ _=>rfl,zvc (zll hw.nd kD hp (yf5 hp uJ)),zvc (zll hw.nd kD hp (yf6 hp uJ)),zvc (zll hw.nd kD hp (yf7 hp))⟩
end
end Go.Proofs.YtldkpahaocjdpaaGreat
