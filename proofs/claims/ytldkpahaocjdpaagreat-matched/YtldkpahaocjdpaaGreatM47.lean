/-
  Plain: what follows hangs on the rules alone, not on their order, nor on how often one stands there; and it is one.
-/
import Derived.Test.YtldkpahaocjdpaaGreatM46
set_option maxHeartbeats 16000000
set_option maxRecDepth 1000000
namespace Go.Proofs.YtldkpahaocjdpaaGreat
section
structure xQ (rs rp:List PR):Prop where
 mem:∀ R,R∈rs.map (·.R)↔R∈rp.map (·.R)
 a:∀ r∈rs,r.bs.map (·.1)=r.R.body
 b:∀ r∈rp,r.bs.map (·.1)=r.R.body
variable {rs rp:List PR}
theorem xQ.symm (h:xQ rs rp):xQ rp rs:=⟨λ R=>(h.mem R).symm,h.b,h.a⟩
theorem z01 (b:Bool){xs ys:List (yX × Value)}(h:xs.map (·.1)=ys.map (·.1)):(zU b xs).map (·.1)=(zU b ys).map (·.1):=by
 have key:∀ zs:List (yX × Value),(zU b zs).map (·.1)=((zs.map (·.1)).filter λ l=>l.neg==b).map λ l=>(⟨l.pd,l.ts⟩:xG):=λ zs=>by
  unfold zU
  induction zs with
  | nil=>rfl
  | cons z r ih=>
   rw[List.filter_cons,List.map_cons,List.filter_cons]
   by_cases hz:yW b z=true
   ·rw[if_pos hz,if_pos (show (z.1.neg==b)=true from hz),List.map_cons,List.map_cons,List.map_cons,ih];rfl
   ·rw[if_neg hz,if_neg (show ¬ (z.1.neg==b)=true from hz)];exact ih
 rw[key,key,h]
variable {r q:PR}
theorem z73 (hr:r.bs.map (·.1)=r.R.body)(hq:q.bs.map (·.1)=q.R.body)(h:r.R=q.R):zL r.bs=zL q.bs:=z01 false (by rw[hr,hq,h])
theorem z7y (hr:r.bs.map (·.1)=r.R.body)(hq:q.bs.map (·.1)=q.R.body)(h:r.R=q.R):vU r.bs=vU q.bs:=z01 true (by rw[hr,hq,h])
theorem ybm (h:r.R=q.R):vZ r=vZ q:=by unfold vZ;rw[h]
theorem xQ.get (h:xQ rs rp)(hr:r∈rs):∃ q∈rp,r.R=q.R/\zL r.bs=zL q.bs/\vU r.bs=vU q.bs/\vZ r=vZ q:=by
 obtain⟨q,hq,e⟩:=List.mem_map.1 ((h.mem r.R).1 (List.mem_map_of_mem hr));exact⟨q,hq,e.symm,z73 (h.a r hr) (h.b q hq) e.symm,z7y (h.a r hr) (h.b q hq) e.symm,ybm e.symm⟩
theorem xQ.filter {rs rp:List PR}(h:xQ rs rp)(S:B8->Nat)(s:Nat):xQ (rs.filter (qD S s)) (rp.filter (qD S s)):=by
 refine⟨λ R=>?_,λ r hr=>h.a r (List.mem_filter.1 hr).1,λ r hr=>h.b r (List.mem_filter.1 hr).1⟩;have one:∀ {xs ys:List PR},(∀ R,R∈xs.map (·.R)->R∈ys.map (·.R))->R∈(xs.filter (qD S s)).map (·.R)->R∈(ys.filter (qD S s)).map (·.R):=λ hx hR=>by
  obtain⟨r,hr,rfl⟩:=List.mem_map.1 hR;obtain⟨h1,h2⟩:=List.mem_filter.1 hr;obtain⟨q,hq,e⟩:=List.mem_map.1 (hx r.R (List.mem_map_of_mem h1));refine List.mem_map.2 ⟨q,List.mem_filter.2 ⟨hq,?_⟩,e⟩;unfold qD at h2 ⊢;rw[e];exact h2
 exact⟨one λ R=>(h.mem R).1,one λ R=>(h.mem R).2⟩
variable {K L:List (Th × Nat)}
theorem qG (h:xQ rs rp)(hk:j4 K L){t:Th}:zjp rs K t->zjp rp L t:=λ ⟨h1,r,hr,e,he,hf⟩=>by
 obtain⟨q,hq,_,e1,e2,e3⟩:=h.get hr;refine⟨?_,q,hq,e,?_,by rw[<-e3];exact hf⟩
 ·have:=hk.look t;rw[h1] at this
  cases hl:zW L t with
  | none=>rfl
  | some n=>rw[hl] at this;cases this
 ·rw[<-e1,<-e2];exact (hk.ways _ _ _ _).1 he
variable {limit n:Nat}
theorem zkm (h:xQ rs rp){r:Option (List (Th × Nat))}(hc:qM rs limit n K r):qM rp limit n K r:=by
 have hk:∀ K:List (Th × Nat),j4 K K:=λ K _=>Iff.rfl
 induction hc with
 | fk L h1 h2 h3=>exact .fk L h1 (λ t ht=>qG h (hk _) (h2 t ht)) h3
 | done h1=>exact .done λ t ht=>h1 t (qG h.symm (hk _) ht)
 | more h1 h2 h3 h4 h5 _ ih=>exact .more h1 h2 h3 (λ t=>(h4 t).trans ⟨qG h (hk _),qG h.symm (hk _)⟩) h5 ih
variable {count s:Nat} {S:B8->Nat}
theorem MA (h:xQ rs rp){r:Option (List (Th × Nat))}(hc:jI rs S limit count s K r):jI rp S limit count s K r:=by
 induction hc with
 | ends h1=>exact .ends h1
 | fK h1 h2=>exact .fK h1 (zkm (h.filter S _) h2)
 | next h1 h2 _ ih=>exact .next h1 (zkm (h.filter S _) h2) ih
theorem vO (h:K.Perm L):j4 K L:=λ _=>⟨λ ⟨n,hn⟩=>⟨n,h.mem_iff.1 hn⟩,λ ⟨n,hn⟩=>⟨n,h.mem_iff.2 hn⟩⟩
theorem zpl {M:List Th}(hM:M.Nodup)(E2:∀ t∈M,zjp rs K t)(hL:∀ t,(∃ n,(t,n)∈L)↔zjp rs K t):M.length<=L.length:=by
 have hs:∀ t∈M,t∈L.map (·.1):=λ t ht=>by
  obtain⟨n,hn⟩:=(hL t).2 (E2 t ht);exact List.mem_map.2 ⟨_,hn,rfl⟩
 have:=zld M (L.map (·.1)) hM hs
 rwa [List.length_map] at this
theorem zph (hK:(K.map (·.1)).Nodup)(hL:(L.map (·.1)).Nodup)(h1:∀ p∈K,p.2=n)(h2:∀ p∈L,p.2=n)(h:∀ t,(∃ n,(t,n)∈K)↔∃ n,(t,n)∈L):K.Perm L:=by
 have hn:∀ {X:List (Th × Nat)},(X.map (·.1)).Nodup->X.Nodup:=λ hX=>(List.pairwise_map.1 hX).imp λ bG e=>bG (by rw[e])
 have one:∀ {X Y:List (Th × Nat)},(∀ p∈X,p.2=n)->(∀ p∈Y,p.2=n)->(∀ t,(∃ n,(t,n)∈X)->∃ n,(t,n)∈Y)->∀ p∈X,p∈Y:=λ hX hY hXY p hp=>by
  obtain⟨m,hm⟩:=hXY p.1 ⟨p.2,hp⟩;have e1:=hX p hp;have e2:=hY _ hm;have:p=(p.1,m):=Prod.ext rfl (e1.trans e2.symm);rw[this];exact hm
 refine (List.perm_ext_iff_of_nodup (hn hK) (hn hL)).2 λ p=>⟨one h1 h2 (λ t=>(h t).1) p,one h2 h1 (λ t=>(h t).2) p⟩
theorem zkn (h:xQ rs rp){r:Option (List (Th × Nat))}(hc:qM rs limit n K r):∀ {L:List (Th × Nat)} {r':Option (List (Th × Nat))},K.Perm L->K.length<=limit->qM rp limit n L r'->(r=none/\r'=none)\/∃ K' L',r=some K'/\r'=some L'/\K'.Perm L'/\K'.length<=limit:=by
 induction hc with
 | @fk n K M h1 h2 h3=>
  intro L r' hp hl hd;have hM:∀ t∈M,zjp rp L t:=λ t ht=>qG h (vO hp) (h2 t ht)
  have hlen:=hp.length_eq
  cases hd with
  | fk _ _ _ _=>exact .inl ⟨rfl,rfl⟩
  | done hn=>
   exfalso
   cases M with
   | nil=>simp at h3;omega
   | cons t q=>exact hn t (hM t List.mem_cons_self)
  | more _ _ _ h7 h8 _=>
   exfalso
   have:=zpl h1 hM h7;omega
 | @done n K hn=>
  intro L r' hp hl hd;have qk:∀ t,¬ zjp rp L t:=λ t ht=>hn t (qG h.symm (vO hp.symm) ht)
  have hlen:=hp.length_eq
  cases hd with
  | fk M _ h2 h3=>
   exfalso
   cases M with
   | nil=>simp at h3;omega
   | cons t q=>exact qk t (h2 t List.mem_cons_self)
  | done _=>exact .inr ⟨_,_,rfl,rfl,hp,hl⟩
  | @more _ _ L1 _ h1 _ _ h4 _ _=>
   exfalso
   cases L1 with
   | nil=>exact h1 rfl
   | cons p q=>exact qk p.1 ((h4 p.1).1 ⟨p.2,List.mem_cons_self⟩)
 | @more n K L0 r h1 h2 h3 h4 h5 hc ih=>
  intro L r' hp hl hd;have hlen:=hp.length_eq
  cases hd with
  | fk M fa eG ey=>
   exfalso
   have:=zpl fa (λ t ht=>qG h.symm (vO hp.symm) (eG t ht)) h4;omega
  | done hn=>
   exfalso
   cases L0 with
   | nil=>exact h1 rfl
   | cons p q=>exact hn p.1 (qG h (vO hp) ((h4 p.1).1 ⟨p.2,List.mem_cons_self⟩))
  | more g1 g2 g3 g4 g5 gc=>
   refine ih (hp.append (zph h2 g2 h3 g3 λ t=>?_)) (by rw[List.length_append];exact h5) gc;rw[h4 t,g4 t];exact⟨qG h (vO hp),qG h.symm (vO hp.symm)⟩
theorem z2x (h:xQ rs rp){r:Option (List (Th × Nat))}(hc:jI rs S limit count s K r):∀ {L:List (Th × Nat)} {r':Option (List (Th × Nat))},K.Perm L->K.length<=limit->jI rp S limit count s L r'->(r=none/\r'=none)\/∃ K' L',r=some K'/\r'=some L'/\K'.Perm L'/\K'.length<=limit:=by
 induction hc with
 | ends h1=>
  intro L r' hp hl hd
  cases hd with
  | ends _=>exact .inr ⟨_,_,rfl,rfl,hp,hl⟩
  | fK h2 _=>omega
  | next h2 _ _=>omega
 | fK h1 h2=>
  intro L r' hp hl hd
  cases hd with
  | ends _=>omega
  | fK _ _=>exact .inl ⟨rfl,rfl⟩
  | next _ h3 _=>
   rcases zkn (h.filter S _) h2 hp hl h3 with⟨_,e⟩ | ⟨_,_,e,_⟩
   ·cases e
   ·cases e
 | next h1 h2 _ ih=>
  intro L r' hp hl hd
  cases hd with
  | ends _=>omega
  | fK _ h3=>
   rcases zkn (h.filter S _) h2 hp hl h3 with⟨e,_⟩ | ⟨_,_,_,e,_⟩
   ·cases e
   ·cases e
  | next _ h3 h4=>
   rcases zkn (h.filter S _) h2 hp hl h3 with⟨e,_⟩ | ⟨_,_,e1,e2,e3,e4⟩
   ·cases e
   ·obtain rfl:=Option.some.inj e1;obtain rfl:=Option.some.inj e2;exact ih e3 e4 h4
theorem zj1 {rs rp:List yK}(h:∀ R,R∈rs↔R∈rp){T:B8->Nat}(h1:qB rs S)(h2:zsu rs S)(h3:qB rp T)(h4:zsu rp T):S=T:=by
 funext k
 have a:=h2 T (λ R hR=>h3 R ((h R).1 hR)) k;have b:=h4 S (λ R hR=>h1 R ((h R).2 hR)) k;omega
end
section
open Go.RowKit Go.Maps
structure aZ (s:B8)(xb:Nat)(w:W8)(lo:Nat)(rs:List PR):Prop where
 ok:(xY s).1=true
 prog:zm9 w lo xb rs
 rules:rs.map (·.R)=(zN s).2.2.1
variable {rs:List PR} {lo xb:Nat} {w:W8} {s:B8}
theorem aZ.cg (h:aZ s xb w lo rs):∀ r∈rs,r.bs.map (·.1)=r.R.body:=λ r hr=>by
 obtain⟨a,c,_,_,eI⟩:=h.prog;exact (eI.each r hr).eq
theorem aZ.below {w':W8}(h:aZ s xb w lo rs)(k:Below w.heap.size w w'):aZ s xb w' lo rs:=by
 obtain⟨a,c,h1,h2,h3⟩:=h.prog;exact⟨h.ok,⟨a,c,(k.block _ (Array.getElem?_eq_some_iff.1 h1).1).trans h1,h2,h3.iY k L9⟩,h.rules⟩
theorem aZ.dh (h:aZ s xb w lo rs):∀ r∈rs,jW (zH s).2 r:=(zhr h.ok h.rules h.cg).dh
variable {r:Option (List (Th × Nat))} {K:List (Th × Nat)} {limit:Nat} {TI:Th->Prop}
theorem z4m (hc:eD rs TI){n:Nat}(h:qM rs limit n K r):(∀ p∈K,TI p.1)->∀ K',r=some K'->∀ p∈K',TI p.1:=by
 induction h with
 | fk _ _ _ _=>intro _ K' e;cases e
 | done _=>intro hK K' e;obtain rfl:=Option.some.inj e;exact hK
 | more _ _ _ h4 _ _ ih=>
  intro hK;refine ih λ p hp=>?_
  rcases List.mem_append.1 hp with hp | hp
  ·exact hK p hp
  ·exact hc.new hK ((h4 p.1).1 ⟨p.2,hp⟩)
variable {S:B8->Nat}
theorem zv7 (hc:eD rs TI){count s:Nat}(h:jI rs S limit count s K r):(∀ p∈K,TI p.1)->∀ K',r=some K'->∀ p∈K',TI p.1:=by
 induction h with
 | ends _=>intro hK K' e;obtain rfl:=Option.some.inj e;exact hK
 | fK _ _=>intro _ K' e;cases e
 | next _ h2 _ ih=>exact λ hK=>ih (z4m (hc.filter _) h2 hK _ rfl)
noncomputable def zyr (ps:P9)(rp:List PR)(Sp:B8->Nat)(K:List (Th × Nat))(O:List Pl):Nat->Nat × List Nat:=open Classical in if h:∃ r,zkb ps Sp rp K O r then h.choose else λ _=>(0,[])
variable {O:List Pl} {rp:List PR} {ps:P9}
theorem z93 {Sp:B8->Nat}(h:∃ r,zkb ps Sp rp K O r):zkb ps Sp rp K O (zyr ps rp Sp K O):=by
 unfold zyr;rw[dif_pos h];exact h.choose_spec
structure Mod (s:B8)(rs:List PR)(limit:Nat)(S:B8->Nat)(m:Nat)(r:Option (List (Th × Nat))):Prop where
 valid:qB (rs.map (·.R)) S
 low:zsu (rs.map (·.R)) S
 count:jO (zH s).2 S m
 gJ:jI rs S limit m 0 [] r
variable {m:Nat}
theorem Mod.GO (cT:∀ r∈rs,r.bs.map (·.1)=r.R.body)(h:Mod s rs limit S m (some K)):∃ n,m<=n/\zut rs S n 1 K:=z2y (λ r hr=>h.valid r.R (List.mem_map_of_mem hr)) cT h.gJ (yal _ _) K rfl
theorem Mod.ti (hg:∀ r∈rs,jW (zH s).2 r)(h:Mod s rs limit S m (some K)):∀ p∈K,eE (zH s).2 p.1:=zv7 (zej hg) h.gJ (by simp) K rfl
theorem Mod.cK (cT:∀ r∈rs,r.bs.map (·.1)=r.R.body)(hg:∀ r∈rs,jW (zH s).2 r)(h:Mod s rs limit S m (some K))(hO:O.Perm (K.map (zh0 S)))(bO:O.Pairwise λ p q=>vI p q=true):zkb (zH s).2 S rs K O (zyr (zH s).2 rs S K O):=by
 obtain⟨n,_,hw⟩:=h.GO cT;exact z93 (yak hg (h.ti hg) hw hO bO)
theorem zao (h:aZ s xb w lo rs)(q:B8)(hq:q.size<=2000000)(limit:Int):Calls Tryz.prog 20 #[.pointer (some ⟨xb,0,none⟩),.string q,.int .i64 limit] w λ e w'=>zkc w rs (zH s).2 q limit w' e/\Below w.heap.size w w':=by
 have hg:=zen h.ok;have hr:=h.rules;have eL:=h.cg;obtain⟨f0,bF,jd⟩:=hg.some_;have ak:∀ r∈rs,r.R∈(zN s).2.2.1:=λ r dH=>by rw[<-hr];exact List.mem_map_of_mem dH
 have oi:∀ r∈rs,∀ x∈r.bs,x.1∈r.R.body:=λ r dH x hx=>by rw[<-eL r dH];exact List.mem_map_of_mem hx
 have hl:rs.length<=30:=by have:=hg.len;rw[<-hr,List.length_map] at this;exact this
 exact zxy w lo xb rs (zH s).2 q limit (eE (zH s).2) hq h.prog hl (λ r dH=>by have:=hg.body r.R (ak r dH);rw[<-eL r dH,List.length_map] at this;exact this) (λ r dH=>hg.pd r.R (ak r dH)) (λ r dH x hx=>hg.uP r.R (ak r dH) x.1 (oi r dH x hx)) (by rw[hr];exact hg.agree) (by rw[hr];exact hg.met) (by have:=hg.ft;omega) (λ r dH=>⟨(hg.named r.R (ak r dH)).1,λ x hx=>(hg.named r.R (ak r dH)).2 x.1 (oi r dH x hx)⟩) f0 (by rw[hr];exact bF) jd (zej h.dh) (λ t ht=>z8c ht)
theorem zjh (h:aZ s xb w lo rs)(q:B8)(hq:q.size<=2000000)(limit:Int):Calls Tryz.prog 26 #[.pointer (some ⟨xb,0,none⟩),.string q,.int .i64 limit] w λ e w'=>zmf w rs (zH s).2 q limit (zyr (zH s).2 rs) w' e/\Below w.heap.size w w':=by
 have hg:=zen h.ok;have hr:=h.rules;have eL:=h.cg;obtain⟨f0,bF,jd⟩:=hg.some_;have ak:∀ r∈rs,r.R∈(zN s).2.2.1:=λ r dH=>by rw[<-hr];exact List.mem_map_of_mem dH
 have oi:∀ r∈rs,∀ x∈r.bs,x.1∈r.R.body:=λ r dH x hx=>by rw[<-eL r dH];exact List.mem_map_of_mem hx
 have hl:rs.length<=30:=by have:=hg.len;rw[<-hr,List.length_map] at this;exact this
 exact z5u w lo xb rs (zH s).2 q limit (zyr (zH s).2 rs) hq h.prog hl (λ r dH=>by have:=hg.body r.R (ak r dH);rw[<-eL r dH,List.length_map] at this;exact this) (λ r dH=>hg.pd r.R (ak r dH)) (λ r dH x hx=>hg.uP r.R (ak r dH) x.1 (oi r dH x hx)) (by rw[hr];exact hg.agree) (by rw[hr];exact hg.met) (by have:=hg.ft;omega) (λ r dH=>⟨(hg.named r.R (ak r dH)).1,λ x hx=>(hg.named r.R (ak r dH)).2 x.1 (oi r dH x hx)⟩) f0 (by rw[hr];exact bF) jd (zej h.dh) h.dh zuw (λ _ Sp m K sS uB hc dj O hO bO=>Mod.cK eL h.dh ⟨sS,uB,hc,dj⟩ hO bO)
variable {e:Ending} {t:Th} {q:B8}
theorem zzr (h:aZ s xb w lo rs)(hM:Mod s rs limit S m (some K))(ht:vK (zH s).2 q=some t){bs:List Nat}(hE:z32 s q bs e):∃ v:Nat,e=.returned (.int .i64 (v:Nat))/\(v=1\/v=2\/v=3)/\(v=1->t∈K.map (·.1))/\(v=2->t∉K.map (·.1)):=by
 rcases hE with⟨hn,_⟩ | ⟨_,rp,bg,cT,hE⟩
 ·rw[h.ok] at hn;cases hn
 ·rcases hE with⟨hn,_⟩ | ⟨t',Sp,sN,sS,uB,hE⟩
  ·rw[ht] at hn;cases hn
  ·rw[ht] at sN;obtain rfl:=Option.some.inj sN;have jg:xQ rs rp:=⟨λ R=>by rw[h.rules,bg],h.cg,cT⟩;obtain rfl:S=Sp:=zj1 jg.mem hM.valid hM.low sS uB;rcases hE with⟨m',k,st,lY,hR,rfl⟩ | ⟨_,rfl⟩
   ·obtain rfl:=zcr hM.count lY;have hg:=(zhr h.ok bg cT).dh;obtain⟨h1,h2⟩:=zt2 sS cT hg lY hR (MA jg hM.gJ);refine⟨_,rfl,?_,λ e=>?_,λ e=>?_⟩
    ·unfold zfr;split
     ·exact .inl rfl
     ·split
      ·exact .inr (.inr rfl)
      ·exact .inr (.inl rfl)
    ·unfold zfr at e
     split at e
     ·rename_i ak;exact h1 t ak
     ·split at e <;> cases e
    ·unfold zfr at e
     split at e
     ·cases e
     ·rename_i l6
      split at e
      ·cases e
      ·rename_i hk;intro ak;refine l6 (h2 t ak ?_);obtain⟨p,hp,rfl⟩:=List.mem_map.1 ak;have hn:=(hM.ti h.dh p hp).num;have qk:(z6 (zH s).2 p.1.p).isSome=true:=(by rw[show p.1.p=p.1.1 from rfl,hn];rfl);exact Nat.lt_of_not_le λ hle=>hk ⟨qk,hle⟩
   ·exact⟨3,rfl,.inr (.inr rfl),(λ e=>by cases e),(λ e=>by cases e)⟩
theorem zx7 {r q:PR}(h1:zL r.bs=zL q.bs)(h2:vU r.bs=vU q.bs)(h3:vZ r=vZ q)(N:List (Th × Nat))(t:Th):zaf N r t=zaf N q t:=by
 unfold zaf;rw[h1,h2,h3]
theorem zzl (hm:rs.map (·.R)=rp.map (·.R))(ha:∀ r∈rs,r.bs.map (·.1)=r.R.body)(hb:∀ r∈rp,r.bs.map (·.1)=r.R.body){rea:Nat->Nat × List Nat}(h:zkb ps S rs K O rea):zkb ps S rp K O rea:=by
 have hlen:rs.length=rp.length:=by have:=congrArg List.length hm;rwa [List.length_map,List.length_map] at this
 have gT:∀ (i:Nat) (h1:i<rs.length) (h2:i<rp.length) (N:List (Th × Nat)) (t:Th),zaf N rs[i] t=zaf N rp[i] t:=λ i h1 h2 N t=>by
  have e:rs[i].R=rp[i].R:=by
   have:=congrArg (λ l=>l[i]?) hm;simp only[List.getElem?_map,List.getElem?_eq_getElem h1,List.getElem?_eq_getElem h2,Option.map_some] at this;exact Option.some.inj this
  exact zx7 (z73 (ha _ (List.getElem_mem h1)) (hb _ (List.getElem_mem h2)) e) (z7y (ha _ (List.getElem_mem h1)) (hb _ (List.getElem_mem h2)) e) (ybm e) N t
 refine⟨h.perm,λ i hi=>?_,h.len,h.low⟩;have hl:=h.least i hi;have bP:(rea i).1<rp.length:=by have:=hl.lt;omega
 refine⟨λ j hj nP=>?_,bP,?_,λ row hr=>?_⟩
 ·rw[<-gT j (by omega) hj];exact hl.low j (by omega) nP
 ·rw[<-gT _ hl.lt bP];exact hl.mem
 ·rw[<-gT _ hl.lt bP] at hr;exact hl.least row hr
theorem zwp (h:aZ s xb w lo rs)(hl:limit<=50)(hM:Mod s rs limit S m (some K))(hlen:K.length<=limit)(ht:vK (zH s).2 q=some t)(hO:O.Perm (K.map (zh0 S)))(bO:O.Pairwise λ p q=>vI p q=true)(hE:z32 s q (zde (zH s).2 S K t (zyr (zH s).2 rs S K O) O) e):e=.returned (.int .i64 ((if (zW K t).isSome then 1 else 2:Nat):Nat)):=by
 rcases hE with⟨hn,_⟩ | ⟨_,rp,bg,cT,hE⟩
 ·rw[h.ok] at hn;cases hn
 ·rcases hE with⟨hn,_⟩ | ⟨t',Sp,sN,sS,uB,hE⟩
  ·rw[ht] at hn;cases hn
  ·rw[ht] at sN;obtain rfl:=Option.some.inj sN;have jg:xQ rs rp:=⟨λ R=>by rw[h.rules,bg],h.cg,cT⟩;obtain rfl:S=Sp:=zj1 jg.mem hM.valid hM.low sS uB;have hg:=(zhr h.ok bg cT).dh;have hA:=zzl (h.rules.trans bg.symm) h.cg cT (hM.cK h.cg h.dh hO bO);have Mb:Mod s rp limit S m (some K):=⟨sS,uB,hM.count,MA jg hM.gJ⟩;obtain⟨n,hn,hw⟩:=Mb.GO cT;obtain⟨st,hR,ak,dj⟩:=z3p (λ r hr=>sS r.R (List.mem_map_of_mem hr)) cT hg hM.count hn hw (Mb.ti hg) (by omega) hA t;rcases hE with⟨m',k,fF,lY,qf,rfl⟩ | ⟨cP,_⟩
   ·obtain rfl:=zcr hM.count lY;obtain⟨rfl,rfl⟩:=hR.uniq qf;have key:zfr (zH s).2 S (xO (zH s).2 S K t) (st.map (·.t)) t=if (zW K t).isSome then 1 else 2:=by
     by_cases hk:t∈K.map (·.1)
     ·unfold zfr;rw[if_pos (dj hk),if_pos (yU.2 hk)]
     ·have hl:¬ (zW K t).isSome=true:=λ hx=>hk (yU.1 hx)
      have hc:¬ ((z6 (zH s).2 t.p).isSome=true/\xO (zH s).2 S K t<=S t.p):=by
       rintro⟨h1,h2⟩;have my:(z6 (zH s).2 t.1).isSome=true:=h1;unfold xO at h2;rw[if_pos my,if_neg hl] at h2;have rX:S t.1+1<=S t.1:=h2;omega
      unfold zfr;rw[if_neg (λ hx=>hk (ak t hx)),if_neg hc,if_neg hl]
    rw[key]
   ·exact absurd hR (cP _ _ _ hM.count)
end
end Go.Proofs.YtldkpahaocjdpaaGreat
