/-
  Plain: texts of any list of lines; the names of what follows.
-/
import Derived.Test.YtldkpahaocjdpaaGreatM49
set_option maxHeartbeats 16000000
set_option maxRecDepth 1000000
namespace Go.Proofs.YtldkpahaocjdpaaGreat
section
def zjs (Ls:List KL):List UInt8:=Ls.flatMap dT
theorem zk4:∀ Ls:List KL,(zjs Ls).length<=40*Ls.length
 | []=>Nat.zero_le _
 | L::r=>by
  have h1:=zk2 L;have h2:=zk4 r;unfold zjs at *;rw[List.flatMap_cons,List.length_append,List.length_cons];omega
variable {Ls:List KL}
theorem zxj (h:Ls≠[]):zjs Ls=zhp (zap [32] [] (Ls.map KL.rule))++[32]:=by
 rw[zit [32] (Ls.map KL.rule) []]
 cases Ls with
 | nil=>exact absurd rfl h
 | cons L r=>
  unfold zjs;simp only[List.map_cons,List.nil_append,List.append_nil,List.flatMap_cons,List.flatMap_map];rfl
theorem zvl (h0:Ls≠[])(hn:Ls.length<=18)(hL:∀ L∈Ls,L.Ok):xY (aB (zjs Ls))=(true,0,0)/\(zN (aB (zjs Ls))).2.2.1=Ls.map KL.rule:=by
 have hb:∀ c∈[(32:UInt8)],yF c.toNat=true:=λ c hc=>zuz c (.inl (List.mem_singleton.1 hc))
 have bh:∀ R∈Ls.map KL.rule,zga (λ _=>2) pT R/\zh6 R:=λ R hR=>by
  obtain⟨L,hm,rfl⟩:=List.mem_map.1 hR;exact⟨KL.ic (hL L hm),KL.words _⟩
 refine zog hb (by simp) hb (ar:=λ _=>2) (lv:=pT) ?_ (λ R hR=>(bh R hR).1) (λ R hR=>(bh R hR).2) ?_ (zxj h0)
 ·rw[zdc];have:=zk4 Ls;omega
 ·rw[List.length_map];omega
def yca (x:B8):Prop:=∃ i,i<4/\x=yH (nmU i)
theorem z9o (k:Nat):yca (yH (nmU k)):=by
 match k with
 | 0=>exact⟨0,by decide,rfl⟩
 | 1=>exact⟨1,by decide,rfl⟩
 | 2=>exact⟨2,by decide,rfl⟩
 | 3=>exact⟨3,by decide,rfl⟩
 | k+4=>exact⟨0,by decide,rfl⟩
def NmK (s:B8):Prop:=∀ R∈(zN s).2.2.1,∀ t∈R.ts,t.1=false->yca t.2
theorem KL.nm (L:KL):∀ t∈L.rule.ts,t.1=false->yca t.2:=by
 cases L with
 | fact i j=>exact yP (λ _=>z9o _) (λ _=>z9o _)
 | rev h q x y=>exact yP (λ h=>by cases h) (λ h=>by cases h)
 | join h q r x y z=>exact yP (λ h=>by cases h) (λ h=>by cases h)
 | minus h q r x y=>exact yP (λ h=>by cases h) (λ h=>by cases h)
 | sX h q r x y n m=>exact yP (λ h=>by cases h) (λ _=>z9o _)
theorem z64 (h0:Ls≠[])(hn:Ls.length<=18)(hL:∀ L∈Ls,L.Ok):zqf (zH (aB (zjs Ls))).2:=by
 obtain⟨h1,h2⟩:=zvl h0 hn hL;have hg:=zen (s:=aB (zjs Ls)) (by rw[h1]);intro k m hk;rw[<-hg.met,h2] at hk;rcases zpk _ _ _ _ hk with h | h
 ·cases h
 ·obtain⟨R,hR,hx⟩:=List.mem_flatMap.1 h;obtain⟨L,hm,rfl⟩:=List.mem_map.1 hR;exact KL.atoms (hL L hm) _ hx
theorem z48 (h0:Ls≠[])(hn:Ls.length<=18)(hL:∀ L∈Ls,L.Ok):ya5 (aB (zjs Ls))/\NmK (aB (zjs Ls)):=by
 obtain⟨h1,h2⟩:=zvl h0 hn hL;refine⟨⟨h1,?_,z64 h0 hn hL,pT,λ R hR=>?_,λ k=>?_⟩,λ R hR=>?_⟩
 ·have:=zk4 Ls;rw[zdc];unfold maxLen;omega
 ·rw[h2] at hR;obtain⟨L,hm,rfl⟩:=List.mem_map.1 hR;have ho:=KL.ic (hL L hm);intro l hl;have h1:=ho.pos l hl;have h2:=ho.neg l hl
  split
  ·rename_i h;have:=h2 h;omega
  ·omega
 ·unfold pT
  split
  ·omega
  ·split
   ·omega
   ·split <;> omega
 ·rw[h2] at hR;obtain⟨L,hm,rfl⟩:=List.mem_map.1 hR;exact L.nm
theorem zyj (L:Nat->KL)(n:Nat):aL L n=zjs (.fact 0 1::(List.range n).map L):=by
 unfold aL zjs;rw[List.flatMap_cons,List.flatMap_map];rfl
theorem z6w (R:Nat->Raw)(n:Nat):∀ L∈KL.fact 0 1::(List.range n).map (λ i=>bW (R i)),L.Ok:=λ L hL=>by
 rcases List.mem_cons.1 hL with rfl | hL
 ·exact⟨by decide,by decide⟩
 ·obtain⟨i,_,rfl⟩:=List.mem_map.1 hL;exact zk3 _ _ _ _
theorem z9p (R:Nat->Raw){n:Nat}(hn:n<=14):NmK (aB (aL (λ i=>bW (R i)) n)):=by
 rw[zyj];exact (z48 (by simp) (by simp;omega) (z6w R n)).2
def yar (P:B8->Prop)(e:zX):Prop:=∀ v x,pAt e v=some x->P x
variable {P:B8->Prop}
theorem ycw {e e':zX}{t:zb0}{n:B8}(hn:P n)(he:yar P e)(h:pmT e t n=some e'):yar P e':=by
 unfold pmT at h
 split at h
 ·unfold pmB at h
  split at h
  ·split at h
   ·cases h;exact he
   ·cases h
  ·cases h
   intro v x hx;rw[lT] at hx
   split at hx
   ·rename_i y hy
    cases hx
    exact he v _ hy
   ·split at hx
    ·cases hx;exact hn
    ·cases hx
 ·split at h
  ·cases h;exact he
  ·cases h
theorem z71 {P:B8->Prop}:∀ (ts:List zb0) (ns:List B8) (e e':zX),ts.length=ns.length->(∀ x∈ns,P x)->yar P e->zd9 e ts ns=some e'->yar P e'
 | [],_,e,e',_,_,he,h=>by rw[zd9] at h;cases h;exact he
 | t::ts,[],_,_,hl,_,_,_=>by cases hl
 | t::ts,n::ns,e,e',hl,hn,he,h=>by
  rw[zd9] at h;simp only[List.headD_cons,List.tail_cons] at h
  cases h1:pmT e t n with
  | none=>rw[h1] at h;cases h
  | some e1=>
   rw[h1] at h;exact z71 ts ns e1 e' (by simpa using hl) (λ x hx=>hn x (List.mem_cons_of_mem _ hx)) (ycw (hn n List.mem_cons_self) he h1) h
theorem znw {P:B8->Prop}{ps:P9}{K:List (Th × Nat)}(hK:∀ p∈K,eE ps p.1/\∀ x∈p.1.2,P x):∀ (pos:List xG) (e0 e:zX),(∀ a∈pos,zoh ps a)->yar P e0->e∈zP K pos e0->yar P e
 | [],e0,e,_,he,h=>by
  rw[zP] at h;rw[List.mem_singleton.1 h];exact he
 | a::r,e0,e,ha,he,h=>by
  rw[zP] at h;obtain⟨p,hp,h⟩:=List.mem_flatMap.1 h
  cases hm:yA e0 a p.1 with
  | none=>rw[hm] at h;simp at h
  | some e1=>
   rw[hm] at h;refine znw hK r e1 e (λ x hx=>ha x (List.mem_cons_of_mem _ hx)) ?_ h;unfold yA at hm
   split at hm
   ·rename_i c;have gG:a.p=p.1.1:=yD.1 c;have hl:a.ts.length=p.1.2.length:=by
     have h1:=(ha a List.mem_cons_self).num;rw[gG,(hK p hp).1.num] at h1;exact (Option.some.inj h1).symm
    exact z71 a.ts p.1.2 e0 e1 hl (hK p hp).2 he hm
   ·cases hm
variable {rs:List PR}
theorem z4n {ps:P9}(h:∀ r∈rs,jW ps r)(hc:∀ r∈rs,∀ t∈r.R.ts,t.1=false->P t.2):eD rs (λ t=>eE ps t/\∀ x∈t.2,P x):=λ K hK r hr=>by
 have hC:=zej h K (λ p hp=>(hK p hp).1) r hr;refine⟨hC.1,λ e he=>⟨hC.2 e he,λ x hx=>?_⟩⟩;have hE:=znw hK (zL r.bs) [] e (h r hr).pos (λ v x hx=>by cases hx) he;obtain⟨_,b⟩:=zcc (λ p hp=>(hK p hp).1) (zL r.bs) [] e (h r hr).pos zou he;obtain⟨t,ht,rfl⟩:=List.mem_map.1 hx;unfold cd
 split
 ·rename_i hv;obtain⟨a,ha,zu⟩:=(h r hr).mP t ht hv;obtain⟨y,hy⟩:=b a ha t zu hv;unfold dq;rw[hy];exact hE _ _ hy
 ·rename_i hv;exact hc r hr t ht (by simpa using hv)
variable {K:List (Th × Nat)} {m limit lo xb:Nat} {S:B8->Nat} {w:W8} {s:B8}
theorem Mod.nm (hP:aZ s xb w lo rs)(hn:NmK s)(hM:Mod s rs limit S m (some K)):∀ p∈K,eE (zH s).2 p.1/\∀ x∈p.1.2,yca x:=
 zv7 (z4n hP.dh λ r hr=>hn r.R (by rw[<-hP.rules];exact List.mem_map_of_mem hr)) hM.gJ (by simp) K rfl
theorem z8b {p i j:Nat}(hp:p<4)(hi:i<4)(hj:j<4):16*p+4*i+j<64/\thX (16*p+4*i+j)=thK p i j:=by
 have h1:(16*p+4*i+j)/16=p:=by omega
 have h2:(16*p+4*i+j)%16/4=i:=by omega
 have h3:(16*p+4*i+j)%16%4=j:=by omega
 refine⟨by omega,?_⟩;unfold thX;rw[h1,h2,h3]
theorem Mod.vc (hP:aZ s xb w lo rs)(h2:zqf (zH s).2)(hn:NmK s)(hM:Mod s rs limit S m (some K)):∀ p∈K,∃ x,x<64/\p.1=thX x:=λ p hp=>by
 obtain⟨hI,hx⟩:=hM.nm hP hn p hp;obtain⟨hl,i,hi,he⟩:=h2 _ _ hI.num;obtain⟨⟨pd,ts⟩,n⟩:=p;obtain⟨a,b,rfl⟩:∃ a b,ts=[a,b]:=by
  match ts,hl with
  | [a,b],_=>exact⟨a,b,rfl⟩
 obtain⟨u,hu,rfl⟩:=hx a List.mem_cons_self;obtain⟨v,hv,rfl⟩:=hx b (List.mem_cons_of_mem _ List.mem_cons_self);have he:pd=fl i:=he;subst he;exact⟨_,(z8b hi hu hv).1,((z8b hi hu hv).2).symm⟩
end
section
open Go.RowKit
def zp2 (K:List (Th × Nat))(A:xG):List B8:=(za3 ((K.filter (zgh A)).map λ p=>yE p.1)).map aB
variable {K:List (Th × Nat)}
theorem z0g {K':List (Th × Nat)}(h:K.Perm K')(A:xG):zp2 K A=zp2 K' A:=by
 unfold zp2;rw[zfk ((h.filter _).map _)]
variable {rs:List PR} {s:B8}
theorem zru {w w':W8}{q:B8}{limit:Nat}(jz:1<=limit)(hl:limit<=50){A:xG}(hA:xZ (zH s).2 q=some A){e:Ending}(hE:zkc w rs (zH s).2 q (limit:Nat) w' e):
  (∃ S m,Mod s rs limit S m none/\e=.returned (.tuple #[.slice none 0 0,.int .i64 7]))\/∃ S m K a c,Mod s rs limit S m (some K)/\(K.map (·.1)).Nodup/\e=.returned (.tuple #[.slice a (zp2 K A).length c,.int .i64 0])/\qd w' a c (zp2 K A):=by
 have oo:qQ (limit:Nat)=true:=by unfold qQ;simp;omega
 have Ds:((limit:Nat):Int).toNat=limit:=by simp
 cases hE with
 | arg h=>rw[oo] at h;cases h
 | ask _ hn=>rw[hA] at hn;cases hn
 | fk _ h1 hv fN hc dj=>
  rw[Ds] at dj;exact .inl ⟨_,_,⟨hv,fN,hc,dj⟩,rfl⟩
 | @yes A' S m K ys a c _ h1 hv fN hc dj dB dC aE=>
  rw[Ds] at dj;rw[hA] at h1;obtain rfl:=Option.some.inj h1;have Dz:(za3 ys).map aB=zp2 K A:=by unfold zp2;rw[zfk dC]
  have Dy:ys.length=(zp2 K A).length:=by rw[<-Dz,zhs]
  rw[zz3,Dz,Dy] at aE;exact .inr ⟨S,m,K,a,c,⟨hv,fN,hc,dj⟩,dB,by rw[Dy],qd.ib aE⟩
theorem zcb {L:List (Th × Nat)}(hk:j4 K L){t:Th}:zjp rs K t->zjp rs L t:=λ ⟨h1,r,hr,e,he,hf⟩=>by
 refine⟨?_,r,hr,e,(hk.ways _ _ _ _).1 he,hf⟩;have:=hk.look t;rw[h1] at this
 cases hl:zW L t with
 | none=>rfl
 | some n=>rw[hl] at this;cases this
variable {r:Option (List (Th × Nat))} {n:Nat}
theorem znc {limit:Nat}(hc:qM rs limit n K r):∀ K1,r=some K1->K.length<=K1.length:=by
 induction hc with
 | fk _ _ _ _=>intro K1 e;cases e
 | done _=>intro K1 e;obtain rfl:=Option.some.inj e;exact Nat.le_refl _
 | more _ _ _ _ _ _ ih=>
  intro K1 e;have:=ih K1 e;rw[List.length_append] at this;omega
variable {count:Nat} {S:B8->Nat}
theorem zyh {limit s:Nat}(hc:jI rs S limit count s K r):∀ K1,r=some K1->K.length<=K1.length:=by
 induction hc with
 | ends _=>intro K1 e;obtain rfl:=Option.some.inj e;exact Nat.le_refl _
 | fK _ _=>intro K1 e;cases e
 | next _ h2 _ ih=>intro K1 e;exact Nat.le_trans (znc h2 _ rfl) (ih K1 e)
variable {L1:Nat}
theorem zko (hc:qM rs L1 n K r):∀ {K1:List (Th × Nat)},r=some K1->∀ {L2:Nat} {K':List (Th × Nat)} {r':Option (List (Th × Nat))},K.Perm K'->K.length<=L2->qM rs L2 n K' r'->K.length<=K1.length/\((r'=none/\L2<K1.length)\/∃ K2,r'=some K2/\K1.Perm K2/\K2.length<=L2):=by
 induction hc with
 | fk _ _ _ _=>intro K1 e;cases e
 | @done n K hn=>
  intro K1 e L2 K' r' hp hl hd;obtain rfl:=Option.some.inj e;have hlen:=hp.length_eq;have qk:∀ t,¬ zjp rs K' t:=λ t ht=>hn t (zcb (vO hp.symm) ht)
  refine⟨Nat.le_refl _,?_⟩
  cases hd with
  | fk M _ h2 h3=>
   exfalso
   cases M with
   | nil=>simp at h3;omega
   | cons t q=>exact qk t (h2 t List.mem_cons_self)
  | done _=>exact .inr ⟨_,rfl,hp,by omega⟩
  | @more _ _ L1 _ h1 _ _ h4 _ _=>
   exfalso
   cases L1 with
   | nil=>exact h1 rfl
   | cons p q=>exact qk p.1 ((h4 p.1).1 ⟨p.2,List.mem_cons_self⟩)
 | @more n K L0 r h1 h2 h3 h4 h5 hc ih=>
  intro K1 e L2 K' r' hp hl hd;have hlen:=hp.length_eq
  by_cases ew:K.length+L0.length<=L2
  ·cases hd with
   | fk M fa eG ey=>
    exfalso
    have:=zpl fa (λ t ht=>zcb (vO hp.symm) (eG t ht)) h4;omega
   | done hn=>
    exfalso
    cases L0 with
    | nil=>exact h1 rfl
    | cons p q=>exact hn p.1 (zcb (vO hp) ((h4 p.1).1 ⟨p.2,List.mem_cons_self⟩))
   | more g1 g2 g3 g4 g5 gc=>
    have MQ:=hp.append (zph h2 g2 h3 g3 λ t=>by
     rw[h4 t,g4 t]
     exact⟨zcb (vO hp),zcb (vO hp.symm)⟩)
    obtain⟨k1,k2⟩:=ih e MQ (by rw[List.length_append];exact ew) gc;rw[List.length_append] at k1;exact⟨by omega,k2⟩
  ·have hle:K.length+L0.length<=K1.length:=by
    have jw:=znc hc K1 e;rw[List.length_append] at jw;exact jw
   refine⟨by omega,?_⟩
   cases hd with
   | fk _ _ _ _=>exact .inl ⟨rfl,by omega⟩
   | done hn=>
    exfalso
    cases L0 with
    | nil=>exact h1 rfl
    | cons p q=>exact hn p.1 (zcb (vO hp) ((h4 p.1).1 ⟨p.2,List.mem_cons_self⟩))
   | more g1 g2 g3 g4 g5 gc=>
    exfalso
    have MQ:=(zph h2 g2 h3 g3 λ t=>by
     rw[h4 t,g4 t]
     exact⟨zcb (vO hp),zcb (vO hp.symm)⟩).length_eq
    omega
theorem zud {s:Nat}(hc:jI rs S L1 count s K r):∀ {K1:List (Th × Nat)},r=some K1->∀ {L2:Nat} {K':List (Th × Nat)} {r':Option (List (Th × Nat))},K.Perm K'->K.length<=L2->jI rs S L2 count s K' r'->(r'=none/\L2<K1.length)\/∃ K2,r'=some K2/\K1.Perm K2/\K2.length<=L2:=by
 induction hc with
 | ends h1=>
  intro K1 e L2 K' r' hp hl hd;obtain rfl:=Option.some.inj e;have hlen:=hp.length_eq
  cases hd with
  | ends _=>exact .inr ⟨_,rfl,hp,by omega⟩
  | fK h2 _=>omega
  | next h2 _ _=>omega
 | fK _ _=>intro K1 e;cases e
 | next h1 h2 h3 ih=>
  intro K1 e L2 K' r' hp hl hd
  cases hd with
  | ends _=>omega
  | fK _ g2=>
   obtain⟨_,⟨_,h⟩ | ⟨_,h,_⟩⟩:=zko h2 rfl hp hl g2
   ·exact .inl ⟨rfl,Nat.lt_of_lt_of_le h (zyh h3 K1 e)⟩
   ·cases h
  | next _ g2 g3=>
   obtain⟨_,⟨h,_⟩ | ⟨K2,h,nG,lG⟩⟩:=zko h2 rfl hp hl g2
   ·cases h
   ·obtain rfl:=Option.some.inj h;exact ih e nG (by rw[nG.length_eq];exact lG) g3
theorem Mod.limit {L2:Nat}{S':B8->Nat}{m m':Nat}(h:Mod s rs L1 S m (some K))(h':Mod s rs L2 S' m' r):(r=none/\L2<K.length)\/∃ K2,r=some K2/\K.Perm K2/\K2.length<=L2:=by
 obtain rfl:=zj1 (λ R=>Iff.rfl) h.valid h.low h'.valid h'.low;obtain rfl:=zcr h.count h'.count;exact zud h.gJ rfl (List.Perm.refl _) (Nat.zero_le _) h'.gJ
end
section
theorem yb4:∀ p,p<4->∀ c,c<16->∀ d,d<16->c<d->[pdU p,40,nmU (c/4),44,nmU (c%4),41]<[pdU p,40,nmU (d/4),44,nmU (d%4),41]:=by decide +kernel
theorem zj9 (p c:Nat):zT (zmc p c)=[pdU p,40,nmU (c/4),44,nmU (c%4),41]:=rfl
theorem zr7 (zs:List B8):(za3 zs).Pairwise λ a b=>a<=b:=by
 unfold za3
 have:=List.pairwise_mergeSort (le:=λ x y:List UInt8=>decide (x<=y)) (λ a b c h1 h2=>by
  simp only[decide_eq_true_eq] at *
  exact List.le_trans h1 h2) (λ a b=>by
  simp only[Bool.or_eq_true,decide_eq_true_eq]
  exact List.le_total a b) (zs.map λ s=>s.data.toList)
 exact this.imp λ h=>by simpa using h
theorem zpv (x:Nat):tQ (thX x):=zyl (z28 (ps:=[]) (λ k n h=>by cases h) x)
variable {p c:Nat}
theorem zuh (hc:c<16):yE (thX (16*p+c))=zmc p c:=by
 rw[z60,show (16*p+c)/16=p by omega,show (16*p+c)%16=c by omega]
def cY (K:List (Th × Nat))(p c:Nat):Bool:=(zW K (thX (16*p+c))).isSome
variable {K:List (Th × Nat)}
theorem zky (dB:(K.map (·.1)).Nodup)(kL:∀ k∈K,∃ x,x<64/\k.1=thX x){A:xG}(hp:p<4){B:Nat->Bool}(hA:∀ x,x<64->∀ n,zgh A (thX x,n)=true↔(x/16=p/\B (x%16)=true)):zp2 K A=((List.range 16).filter λ c=>cY K p c&&B c).map (zmc p):=by
 have key:za3 ((K.filter (zgh A)).map λ k=>yE k.1)=((List.range 16).filter λ c=>cY K p c&&B c).map λ c=>zT (zmc p c):=by
  refine List.Perm.eq_of_pairwise (le:=λ a b=>a<=b) (λ a b _ _ h1 h2=>List.le_antisymm h1 h2) (zr7 _) ?_ ?_
  ·refine List.pairwise_map.2 (List.Pairwise.filter _ (List.Pairwise.imp_of_mem (λ {a b} ha hb h=>?_) List.pairwise_lt_range));rw[zj9,zj9];exact List.le_of_lt (yb4 p hp a (List.mem_range.1 ha) b (List.mem_range.1 hb) h)
  ·refine (show (za3 ((K.filter (zgh A)).map λ k=>yE k.1)).Perm (((K.filter (zgh A)).map λ k=>yE k.1).map λ s=>s.data.toList) from List.mergeSort_perm _ _).trans ?_;rw[List.map_map];refine (List.perm_ext_iff_of_nodup ?_ ?_).2 λ z=>?_
   ·have h1:((K.filter (zgh A)).map (·.1)).Nodup:=List.Nodup.sublist (List.Sublist.map _ List.filter_sublist) dB;refine List.pairwise_map.2 ((List.pairwise_map.1 h1).imp_of_mem λ {a b} ha hb bG e=>bG ?_);obtain⟨x,_,hx⟩:=kL a (List.mem_filter.1 ha).1;obtain⟨y,_,hy⟩:=kL b (List.mem_filter.1 hb).1;have e:zT (yE a.1)=zT (yE b.1):=e;rw[hx,hy] at e ⊢;refine zi2 (zpv x) (zpv y) ?_;have:=congrArg aB e
    rwa [show aB (zT (yE (thX x)))=_ from zdj _,show aB (zT (yE (thX y)))=_ from zdj _] at this
   ·refine List.pairwise_map.2 (List.Pairwise.filter _ (List.Pairwise.imp_of_mem (λ {a b} ha hb h e=>?_) List.pairwise_lt_range));rw[zj9,zj9] at e;have:=yb4 p hp a (List.mem_range.1 ha) b (List.mem_range.1 hb) h;rw[e] at this;exact List.lt_irrefl _ this
   ·rw[List.mem_map,List.mem_map]
    constructor
    ·rintro⟨k,hk,rfl⟩;obtain⟨de,cN⟩:=List.mem_filter.1 hk;obtain⟨x,hx,e⟩:=kL k de;obtain⟨t,n⟩:=k;have e:t=thX x:=e;subst e;obtain⟨h1,h2⟩:=(hA x hx n).1 cN;have pL:16*p+x%16=x:=(by omega);refine⟨x%16,List.mem_filter.2 ⟨List.mem_range.2 (Nat.mod_lt _ (by decide)),?_⟩,?_⟩
     ·have:cY K p (x%16)=true:=by
       unfold cY;rw[pL];exact yU.2 (List.mem_map.2 ⟨_,de,rfl⟩)
      rw[this,h2];rfl
     ·show zT (zmc p (x%16))=zT (yE (thX x))
      rw[<-zuh (Nat.mod_lt _ (by decide)),pL]
    ·rintro⟨c,hc,rfl⟩;obtain⟨mC,nA⟩:=List.mem_filter.1 hc;have mC:=List.mem_range.1 mC;rw[Bool.and_eq_true] at nA;have hm:thX (16*p+c)∈K.map (·.1):=yU.1 nA.1;obtain⟨k,hk,e⟩:=List.mem_map.1 hm;obtain⟨t,n⟩:=k;have e:t=thX (16*p+c):=e;subst e;refine⟨_,List.mem_filter.2 ⟨hk,(hA _ (by omega) n).2 ⟨by omega,?_⟩⟩,?_⟩
     ·rw[show (16*p+c)%16=c by omega];exact nA.2
     ·show zT (yE (thX (16*p+c)))=_
      rw[zuh mC]
 unfold zp2;rw[key,List.map_map];refine List.map_congr_left λ c _=>?_
 show aB (zT (zmc p c))=zmc p c
 exact zdj _
theorem z8u (h:∀ k∈K,∃ x,x<64/\k.1=thX x):(zmb K 4).length=K.length:=by
 have hz:∀ k,(dI K k).length=(K.filter (zgh (zwk k))).length:=λ k=>by unfold dI;rw[zhs,List.length_map]
 have bh:zmb K 4=dI K 0++dI K 1++dI K 2++dI K 3:=by
  rw[lS,lS,lS,lS];rfl
 rw[bh];simp only[List.length_append,hz];clear bh hz
 induction K with
 | nil=>rfl
 | cons k r ih=>
  have ih:=ih λ x hx=>h x (List.mem_cons_of_mem _ hx)
  obtain⟨x,hx,e⟩:=h k List.mem_cons_self;obtain⟨t,n⟩:=k;have e:t=thX x:=e;subst e;have CF:∀ j,j<4->zgh (zwk j) (thX x,n)=decide (x/16=j):=λ j hj=>by
   rw[Bool.eq_iff_iff,ybn (t:=thX x) rfl n,decide_eq_true_eq]
   show fl (x/16)=fl j↔_
   have eN:∀ a,a<4->∀ b,b<4->(fl a=fl b↔a=b):=(by decide);exact eN _ (by omega) j hj
  simp only[List.filter_cons,CF 0 (by decide),CF 1 (by decide),CF 2 (by decide),CF 3 (by decide),List.length_cons];have h4:x/16=0\/x/16=1\/x/16=2\/x/16=3:=by omega
  rcases h4 with h4 | h4 | h4 | h4 <;> rw[h4] <;> simp <;> omega
theorem z4g {s:B8}{rs:List PR}(h2:zqf (zH s).2)(hg:∀ r∈rs,jW (zH s).2 r){limit:Nat}{S:B8->Nat}{m:Nat}(hM:Mod s rs limit S m (some K))(hc:c<16):zfv (zmc p c) (zmb K 4)=cY K p c:=by
 have:=zwj h2 hg hM (zpv (16*p+c))
 rwa [zuh hc] at this
def ag (F:Nat->Bool)(c:Nat):Nat:=((List.range c).filter F).length
theorem zcq (F:Nat->Bool)(c:Nat):ag F (c+1)=ag F c+if F c then 1 else 0:=by
 unfold ag;rw[List.range_succ,List.filter_append,List.length_append,List.filter_cons]
 split <;> simp
theorem z8y {F:Nat->Bool}{n:Nat}(h:c<n)(hF:F c=true):((List.range n).filter F)[ag F c]?=some c:=by
 obtain⟨d,rfl⟩:∃ d,n=c+(d+1):=⟨n-c-1,by omega⟩;unfold ag;rw[List.range_add,List.filter_append,List.getElem?_append_right L9,Nat.sub_self,List.range_succ_eq_map,List.map_cons,List.filter_cons];simp[hF]
def yce (k a:Nat):xG:=⟨fl k,[tN a,(true,yH 88)]⟩
def ycf (k a:Nat):xG:=⟨fl k,[(true,yH 88),tN a]⟩
def ycg (k:Nat):xG:=⟨fl k,[(true,yH 88),(true,yH 88)]⟩
variable {k:Nat} {ps:P9}
theorem zgw (h:zqf ps){t u:Bool × B8}{q:B8}(ht:jP (zbe t).1 (zbe t).2)(hu:jP (zbe u).1 (zbe u).2)(hq:zT q=zhp (j9 [] (fl k) [t,u])):xZ ps q=some ⟨fl k,[t,u]⟩:=by
 have hp:zc1 q=some ⟨fl k,[t,u]⟩:=zlj (zbz k) (yP ht hu) (by simp) hq;have hs:zbx ps ⟨fl k,[t,u]⟩=true:=by
  unfold zbx
  cases hn:z6 ps (fl k) with
  | none=>rfl
  | some m=>simp only;rw[(h _ _ hn).1];rfl
 unfold xZ;rw[hp];simp only;rw[if_pos hs]
theorem z3c:jP (zbe (true,yH 88)).1 (zbe (true,yH 88)).2:=zhw (by decide)
theorem ya8 (h:zqf ps)(k a:Nat):xZ ps (yH (pdU k)++{ data:=#[40] }++yH (nmU a)++{ data:=#[44,88,41] })=some (yce k a):=zgw h (zjm a) z3c (by
 unfold zT yH;simp only[ByteArray.data_append,Array.toList_append]
 rfl)
theorem ya9 (h:zqf ps)(k a:Nat):xZ ps (yH (pdU k)++{ data:=#[40,88,44] }++yH (nmU a)++{ data:=#[41] })=some (ycf k a):=zgw h z3c (zjm a) (by
 unfold zT yH;simp only[ByteArray.data_append,Array.toList_append]
 rfl)
theorem yba (h:zqf ps)(k:Nat):xZ ps (yH (pdU k)++{ data:=#[40,88,44,88,41] })=some (ycg k):=zgw h z3c z3c (by
 unfold zT yH;simp only[ByteArray.data_append,Array.toList_append]
 rfl)
theorem zbc (c d:UInt8):((yH c).toList==(yH d).toList)=(c==d):=by
 rw[ByteArray.toList_eq,ByteArray.toList_eq]
 show ([c]==[d])=(c==d)
 simp
theorem zns:∀ a,a<4->∀ b,b<4->(nmU a==nmU b)=decide (a=b):=by decide
theorem z1u:∀ a,a<4->∀ b,b<4->(pdU a==pdU b)=decide (a=b):=by decide
variable {a:Nat}
theorem yc6 (hk:k<4)(ha:a<4)(x:Nat)(hx:x<64)(n:Nat):zgh (yce k a) (thX x,n)=true↔(x/16=k/\decide (x%16/4=a)=true):=by
 unfold zgh yA
 show (if (fl k).toList==(fl (x/16)).toList then zd9 [] [tN a,(true,yH 88)] [yH (nmU (x%16/4)),yH (nmU (x%16%4))] else none).isSome=true↔_
 rw[show ((fl k).toList==(fl (x/16)).toList)=(pdU k==pdU (x/16)) from zbc _ _,z1u k hk _ (by omega)];have h1:pmT [] (tN a) (yH (nmU (x%16/4)))=if decide (a=x%16/4) then some [] else none:=by
  show (if (yH (nmU a)).toList==(yH (nmU (x%16/4))).toList then some [] else none)=_
  rw[zbc,zns a ha _ (by omega)]
 rw[zd9];simp only[List.headD_cons,List.tail_cons,h1]
 by_cases e1:k=x/16 <;> by_cases e2:a=x%16/4
 ·simp only[e1,e2,decide_true,if_true];refine⟨λ _=>⟨trivial,trivial⟩,λ _=>?_⟩;rfl
 ·rw[if_pos (decide_eq_true e1),if_neg (by simpa using e2)];exact⟨(λ h=>by cases h),λ h=>absurd (of_decide_eq_true h.2).symm e2⟩
 ·rw[if_neg (by simpa using e1)];exact⟨(λ h=>by cases h),λ h=>absurd h.1.symm e1⟩
 ·rw[if_neg (by simpa using e1)];exact⟨(λ h=>by cases h),λ h=>absurd h.1.symm e1⟩
theorem yc7 (hk:k<4)(ha:a<4)(x:Nat)(hx:x<64)(n:Nat):zgh (ycf k a) (thX x,n)=true↔(x/16=k/\decide (x%16%4=a)=true):=by
 unfold zgh yA
 show (if (fl k).toList==(fl (x/16)).toList then zd9 [] [(true,yH 88),tN a] [yH (nmU (x%16/4)),yH (nmU (x%16%4))] else none).isSome=true↔_
 rw[show ((fl k).toList==(fl (x/16)).toList)=(pdU k==pdU (x/16)) from zbc _ _,z1u k hk _ (by omega)];have h0:pmT [] (true,yH 88) (yH (nmU (x%16/4)))=some [(yH 88,yH (nmU (x%16/4)))]:=rfl;have h1:pmT [(yH 88,yH (nmU (x%16/4)))] (tN a) (yH (nmU (x%16%4)))=if decide (a=x%16%4) then some [(yH 88,yH (nmU (x%16/4)))] else none:=by
  show (if (yH (nmU a)).toList==(yH (nmU (x%16%4))).toList then some [(yH 88,yH (nmU (x%16/4)))] else none)=_
  rw[zbc,zns a ha _ (by omega)]
 rw[zd9];simp only[List.headD_cons,List.tail_cons,h0];rw[zd9];simp only[List.headD_cons,List.tail_cons,h1]
 by_cases e1:k=x/16 <;> by_cases e2:a=x%16%4
 ·simp only[e1,e2,decide_true,if_true];refine⟨λ _=>⟨trivial,trivial⟩,λ _=>?_⟩;rfl
 ·rw[if_pos (decide_eq_true e1),if_neg (by simpa using e2)];exact⟨(λ h=>by cases h),λ h=>absurd (of_decide_eq_true h.2).symm e2⟩
 ·rw[if_neg (by simpa using e1)];exact⟨(λ h=>by cases h),λ h=>absurd h.1.symm e1⟩
 ·rw[if_neg (by simpa using e1)];exact⟨(λ h=>by cases h),λ h=>absurd h.1.symm e1⟩
theorem yc8 (hk:k<4)(x:Nat)(hx:x<64)(n:Nat):zgh (ycg k) (thX x,n)=true↔(x/16=k/\decide (x%16/4=x%16%4)=true):=by
 unfold zgh yA
 show (if (fl k).toList==(fl (x/16)).toList then zd9 [] [(true,yH 88),(true,yH 88)] [yH (nmU (x%16/4)),yH (nmU (x%16%4))] else none).isSome=true↔_
 rw[show ((fl k).toList==(fl (x/16)).toList)=(pdU k==pdU (x/16)) from zbc _ _,z1u k hk _ (by omega)];have h0:pmT [] (true,yH 88) (yH (nmU (x%16/4)))=some [(yH 88,yH (nmU (x%16/4)))]:=rfl;have h1:pmT [(yH 88,yH (nmU (x%16/4)))] (true,yH 88) (yH (nmU (x%16%4)))=if decide (x%16/4=x%16%4) then some [(yH 88,yH (nmU (x%16/4)))] else none:=by
  have hp:pAt [(yH 88,yH (nmU (x%16/4)))] (yH 88)=some (yH (nmU (x%16/4))):=by
   rw[pAt,if_pos (yD.2 rfl)]
  unfold pmT pmB;rw[if_pos rfl,hp]
  show (if (yH (nmU (x%16/4))).toList==(yH (nmU (x%16%4))).toList then some [(yH 88,yH (nmU (x%16/4)))] else none)=_
  rw[zbc,zns _ (by omega) _ (by omega)]
 rw[zd9];simp only[List.headD_cons,List.tail_cons,h0];rw[zd9];simp only[List.headD_cons,List.tail_cons,h1]
 by_cases e1:k=x/16 <;> by_cases e2:x%16/4=x%16%4
 ·simp only[e1,e2,decide_true,if_true];refine⟨λ _=>⟨trivial,trivial⟩,λ _=>?_⟩;rfl
 ·rw[if_pos (decide_eq_true e1),if_neg (by simpa using e2)];exact⟨(λ h=>by cases h),λ h=>absurd (of_decide_eq_true h.2) e2⟩
 ·rw[if_neg (by simpa using e1)];exact⟨(λ h=>by cases h),λ h=>absurd h.1.symm e1⟩
 ·rw[if_neg (by simpa using e1)];exact⟨(λ h=>by cases h),λ h=>absurd h.1.symm e1⟩
end
section
open Go.RowKit Go.Maps
variable {rs:List PR} {lo xb:Nat} {w:W8} {s:B8}
theorem z88 (hP:aZ s xb w lo rs){T:Th->Prop}(hM:ycn rs T){i j:Nat}(hR:(KL.fact i j).rule∈(zN s).2.2.1):T (thK 0 i j):=by
 rw[<-hP.rules] at hR;obtain⟨r,hr,e⟩:=List.mem_map.1 hR;have hb:=hP.cg r hr;rw[e] at hb;have hb:r.bs=[]:=by cases hx:r.bs with | nil=>rfl | cons y l=>rw[hx] at hb;simp[KL.rule] at hb
 have h1:zL r.bs=[]:=by rw[hb];rfl
 have h2:vU r.bs=[]:=by rw[hb];rfl
 have h3:vZ r=⟨fl 0,[tN i,tN j]⟩:=by unfold vZ;rw[e];rfl
 have:=hM.closed r hr [] [] (by rw[h1];rfl) (by simp) (by rw[h2];simp);rw[h3] at this;exact this
variable {e:Ending} {A:xG} {q:B8} {w':W8} {K:List (Th × Nat)} {m:Nat} {S:B8->Nat}
theorem zip (cT:∀ r∈rs,r.bs.map (·.1)=r.R.body)(hK:Mod s rs 50 S m (some K))(hA:xZ (zH s).2 q=some A)(hE:zkc w rs (zH s).2 q 50 w' e):∃ a c,e=.returned (.tuple #[.slice a (zp2 K A).length c,.int .i64 0])/\qd w' a c (zp2 K A):=by
 rcases zru (limit:=50) (by decide) (by decide) hA hE with⟨S',m',hM,rfl⟩ | ⟨S',m',K',a,c,hM,_,rfl,hT⟩
 ·obtain⟨_,_,⟨e,_⟩ | ⟨_,_,_,e,_,_⟩⟩:=hK.uniq cT hM
  ·cases e
  ·cases e
 ·obtain⟨_,_,⟨e,_⟩ | ⟨_,_,e1,e2,e3,_⟩⟩:=hK.uniq cT hM
  ·cases e
  ·obtain rfl:=Option.some.inj e1;obtain rfl:=Option.some.inj e2;rw[z0g e3];exact⟨a,c,rfl,hT⟩
theorem znz (hK:Mod s rs 50 S m (some K)){L:Nat}(h1:1<=L)(h2:L<=50)(hA:xZ (zH s).2 q=some A)(hE:zkc w rs (zH s).2 q (L:Nat) w' e):(K.length<=L->∃ a n c,e=.returned (.tuple #[.slice a n c,.int .i64 0]))/\(L<K.length->e=.returned (.tuple #[.slice none 0 0,.int .i64 7])):=by
 rcases zru h1 h2 hA hE with⟨S',m',hM,rfl⟩ | ⟨S',m',K',a,c,hM,_,rfl,hT⟩
 ·refine⟨λ h=>?_,λ _=>rfl⟩;rcases hK.limit hM with⟨_,h3⟩ | ⟨_,e,_⟩
  ·omega
  ·cases e
 ·refine⟨λ _=>⟨a,_,c,rfl⟩,λ h=>?_⟩;rcases hK.limit hM with⟨e,_⟩ | ⟨K2,e,hp,h3⟩
  ·cases e
  ·have:=hp.length_eq;omega
structure yb9 (L:List B8)(p:Nat)(F:Nat->Bool):Prop where
 len:L.length=ag F 16
 at_:∀ c,c<16->F c=true->∃ h:ag F c<L.length,L[ag F c]=zmc p c
variable {p:Nat}
theorem ztd {L:List B8}{F:Nat->Bool}(h:L=((List.range 16).filter F).map (zmc p)):yb9 L p F:=by
 subst h;refine⟨by rw[List.length_map];rfl,λ c hc hF=>?_⟩;have h1:=z8y hc hF;obtain⟨h2,h3⟩:=List.getElem?_eq_some_iff.1 h1;refine⟨by rw[List.length_map];exact h2,?_⟩;rw[List.getElem_map,h3]
theorem zs2 (F:Nat->Bool)(c:Nat):ag F c<=c:=by
 unfold ag;have:=List.length_filter_le F (List.range c)
 rwa [List.length_range] at this
theorem yb3 (p i:Nat):yH (pdU p)++{ data:=#[40] }++yH (nmU (i/4))++{ data:=#[44] }++yH (nmU (i%4))++{ data:=#[41] }=zmc p i:=by
 apply ByteArray.ext;simp only[ByteArray.data_append];rfl
structure yc2 (K:List (Th × Nat))(zs X Y Z:List B8)(p n:Nat)(F1 F2 F3:Nat->Bool):Prop where
 am:∀ c,c<16->zfv (zmc p c) zs=cY K p c
 f1:∀ c,F1 c=(cY K p c&&decide (c/4=n))
 f2:∀ c,F2 c=(cY K p c&&decide (c%4=n))
 f3:∀ c,F3 c=(cY K p c&&decide (c/4=c%4))
 x:yb9 X p F1
 y:yb9 Y p F2
 z:yb9 Z p F3
theorem z9k (hP:aZ s xb w lo rs)(h2:zqf (zH s).2)(hn:NmK s)(hK:Mod s rs 50 S m (some K)){n:Nat}(hp:p<4)(uJ:n<4):yc2 K (zmb K 4) (zp2 K (yce p n)) (zp2 K (ycf p n)) (zp2 K (ycg p)) p n (λ c=>cY K p c&&decide (c/4=n)) (λ c=>cY K p c&&decide (c%4=n)) (λ c=>cY K p c&&decide (c/4=c%4)):=by
 obtain⟨_,_,hw⟩:=hK.GO hP.cg;have kL:=hK.vc hP h2 hn;exact⟨λ c hc=>z4g h2 hP.dh hK hc,λ _=>rfl,λ _=>rfl,λ _=>rfl,ztd (zky hw.nd kL hp (yc6 hp uJ)),ztd (zky hw.nd kL hp (yc7 hp uJ)),ztd (zky hw.nd kL hp (yc8 hp))⟩
end
section
open Go.RowKit Go.Maps
theorem ME.pW {s:B8}{rs:List PR}{w:W8}{e:Ending}{w':W8}(h:ME s rs w e w'):∃ a c zs sm,e=.returned (.tuple #[.slice a zs.length c,.bool sm])/\qd w' a c zs/\yco s rs sm zs/\(sm=false->zs=[])/\Below w.heap.size w w':=by
 obtain⟨hb,S,m,r,hM,⟨rfl,rfl⟩ | ⟨K,a,c,rfl,hK,rfl,aE⟩⟩:=h
 ·exact⟨none,0,[],false,rfl,⟨Nat.le_refl _,by unfold maxLen;omega,λ j hj=>by simp at hj⟩,⟨S,m,hM⟩,λ _=>rfl,hb⟩
 ·exact⟨a,c,zmb K 4,true,rfl,qd.ib aE,⟨S,m,K,hM,rfl⟩,(λ e=>by cases e),hb⟩
end
end Go.Proofs.YtldkpahaocjdpaaGreat
