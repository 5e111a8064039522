/-
  Plain: what follows hangs on the rules alone, not on their order, nor on how often one stands there; and it is one.
-/
import Derived.Test.YtldkpahaocjdpaaGreatR47
set_option maxHeartbeats 16000000
set_option maxRecDepth 1000000
namespace Go.Proofs.YtldkpahaocjdpaaGreat
section
structure bg (rs rp:List PR):Prop where
 mem:∀ R,R∈rs.map (·.R)↔R∈rp.map (·.R)
 a:∀ r∈rs,r.bs.map (·.1)=r.R.body
 b:∀ r∈rp,r.bs.map (·.1)=r.R.body
variable {rs rp:List PR}
theorem bg.symm (h:bg rs rp):bg rp rs:=⟨λ R=>(h.mem R).symm,h.b,h.a⟩
theorem lits_of (b:Bool){xs ys:List (PLit × Value)}(h:xs.map (·.1)=ys.map (·.1)):(aC b xs).map (·.1)=(aC b ys).map (·.1):=by
 have key:∀ zs:List (PLit × Value),(aC b zs).map (·.1)=((zs.map (·.1)).filter λ l=>l.neg==b).map λ l=>(⟨l.pd,l.ts⟩:PAtm):=λ zs=>by
  unfold aC
  induction zs with
  | nil=>rfl
  | cons z r ih=>
   rw[List.filter_cons,List.map_cons,List.filter_cons]
   by_cases hz:isNeg b z=true
   ·rw[if_pos hz,if_pos (show (z.1.neg==b)=true from hz),List.map_cons,List.map_cons,List.map_cons,ih];rfl
   ·rw[if_neg hz,if_neg (show ¬ (z.1.neg==b)=true from hz)];exact ih
 rw[key,key,h]
variable {r q:PR}
theorem pos_of (hr:r.bs.map (·.1)=r.R.body)(hq:q.bs.map (·.1)=q.R.body)(h:r.R=q.R):posOf r.bs=posOf q.bs:=lits_of false (by rw[hr,hq,h])
theorem neg_of (hr:r.bs.map (·.1)=r.R.body)(hq:q.bs.map (·.1)=q.R.body)(h:r.R=q.R):negOf r.bs=negOf q.bs:=lits_of true (by rw[hr,hq,h])
theorem hd_of (h:r.R=q.R):aO r=aO q:=by unfold aO;rw[h]
theorem bg.get (h:bg rs rp)(hr:r∈rs):∃ q∈rp,r.R=q.R/\posOf r.bs=posOf q.bs/\negOf r.bs=negOf q.bs/\aO r=aO q:=by
 obtain⟨q,hq,e⟩:=List.mem_map.1 ((h.mem r.R).1 (List.mem_map_of_mem hr));exact⟨q,hq,e.symm,pos_of (h.a r hr) (h.b q hq) e.symm,neg_of (h.a r hr) (h.b q hq) e.symm,hd_of e.symm⟩
theorem bg.filter {rs rp:List PR}(h:bg rs rp)(S:B8->Nat)(s:Nat):bg (rs.filter (bI S s)) (rp.filter (bI S s)):=by
 refine⟨λ R=>?_,λ r hr=>h.a r (List.mem_filter.1 hr).1,λ r hr=>h.b r (List.mem_filter.1 hr).1⟩;have one:∀ {xs ys:List PR},(∀ R,R∈xs.map (·.R)->R∈ys.map (·.R))->R∈(xs.filter (bI S s)).map (·.R)->R∈(ys.filter (bI S s)).map (·.R):=λ hx hR=>by
  obtain⟨r,hr,rfl⟩:=List.mem_map.1 hR;obtain⟨h1,h2⟩:=List.mem_filter.1 hr;obtain⟨q,hq,e⟩:=List.mem_map.1 (hx r.R (List.mem_map_of_mem h1));refine List.mem_map.2 ⟨q,List.mem_filter.2 ⟨hq,?_⟩,e⟩;unfold bI at h2 ⊢;rw[e];exact h2
 exact⟨one λ R=>(h.mem R).1,one λ R=>(h.mem R).2⟩
variable {K L:List (Th × Nat)}
theorem new_congr (h:bg rs rp)(hk:SameKeys K L){t:Th}:NewB rs K t->NewB rp L t:=λ ⟨h1,r,hr,e,he,hf⟩=>by
 obtain⟨q,hq,_,e1,e2,e3⟩:=h.get hr;refine⟨?_,q,hq,e,?_,by rw[<-e3];exact hf⟩
 ·have:=hk.look t;rw[h1] at this
  cases hl:ay L t with
  | none=>rfl
  | some n=>rw[hl] at this;cases this
 ·rw[<-e1,<-e2];exact (hk.ways _ _ _ _).1 he
variable {limit n:Nat}
theorem climb_congr (h:bg rs rp){r:Option (List (Th × Nat))}(hc:PClimb rs limit n K r):PClimb rp limit n K r:=by
 have hk:∀ K:List (Th × Nat),SameKeys K K:=λ K _=>Iff.rfl
 induction hc with
 | fk L h1 h2 h3=>exact .fk L h1 (λ t ht=>new_congr h (hk _) (h2 t ht)) h3
 | done h1=>exact .done λ t ht=>h1 t (new_congr h.symm (hk _) ht)
 | more h1 h2 h3 h4 h5 _ ih=>exact .more h1 h2 h3 (λ t=>(h4 t).trans ⟨new_congr h (hk _),new_congr h.symm (hk _)⟩) h5 ih
variable {count s:Nat} {S:B8->Nat}
theorem fm (h:bg rs rp){r:Option (List (Th × Nat))}(hc:PStrat rs S limit count s K r):PStrat rp S limit count s K r:=by
 induction hc with
 | ends h1=>exact .ends h1
 | fK h1 h2=>exact .fK h1 (climb_congr (h.filter S _) h2)
 | next h1 h2 _ ih=>exact .next h1 (climb_congr (h.filter S _) h2) ih
theorem perm_keys (h:K.Perm L):SameKeys K L:=λ _=>⟨λ ⟨n,hn⟩=>⟨n,h.mem_iff.1 hn⟩,λ ⟨n,hn⟩=>⟨n,h.mem_iff.2 hn⟩⟩
theorem over_few {M:List Th}(hM:M.Nodup)(E2:∀ t∈M,NewB rs K t)(hL:∀ t,(∃ n,(t,n)∈L)↔NewB rs K t):M.length<=L.length:=by
 have hs:∀ t∈M,t∈L.map (·.1):=λ t ht=>by
  obtain⟨n,hn⟩:=(hL t).2 (E2 t ht);exact List.mem_map.2 ⟨_,hn,rfl⟩
 have:=nodup_sub M (L.map (·.1)) hM hs
 rwa [List.length_map] at this
theorem new_perm (hK:(K.map (·.1)).Nodup)(hL:(L.map (·.1)).Nodup)(h1:∀ p∈K,p.2=n)(h2:∀ p∈L,p.2=n)(h:∀ t,(∃ n,(t,n)∈K)↔∃ n,(t,n)∈L):K.Perm L:=by
 have hn:∀ {X:List (Th × Nat)},(X.map (·.1)).Nodup->X.Nodup:=λ hX=>(List.pairwise_map.1 hX).imp λ bG e=>bG (by rw[e])
 have one:∀ {X Y:List (Th × Nat)},(∀ p∈X,p.2=n)->(∀ p∈Y,p.2=n)->(∀ t,(∃ n,(t,n)∈X)->∃ n,(t,n)∈Y)->∀ p∈X,p∈Y:=λ hX hY hXY p hp=>by
  obtain⟨m,hm⟩:=hXY p.1 ⟨p.2,hp⟩;have e1:=hX p hp;have e2:=hY _ hm;have:p=(p.1,m):=Prod.ext rfl (e1.trans e2.symm);rw[this];exact hm
 refine (List.perm_ext_iff_of_nodup (hn hK) (hn hL)).2 λ p=>⟨one h1 h2 (λ t=>(h t).1) p,one h2 h1 (λ t=>(h t).2) p⟩
theorem climb_det (h:bg rs rp){r:Option (List (Th × Nat))}(hc:PClimb rs limit n K r):∀ {L:List (Th × Nat)} {r':Option (List (Th × Nat))},K.Perm L->K.length<=limit->PClimb rp limit n L r'->(r=none/\r'=none)\/∃ K' L',r=some K'/\r'=some L'/\K'.Perm L'/\K'.length<=limit:=by
 induction hc with
 | @fk n K M h1 h2 h3=>
  intro L r' hp hl hd;have hM:∀ t∈M,NewB rp L t:=λ t ht=>new_congr h (perm_keys hp) (h2 t ht)
  have hlen:=hp.length_eq
  cases hd with
  | fk _ _ _ _=>exact .inl ⟨rfl,rfl⟩
  | done hn=>
   exfalso
   cases M with
   | nil=>simp at h3;omega
   | cons t q=>exact hn t (hM t List.mem_cons_self)
  | more _ _ _ h7 h8 _=>
   exfalso
   have:=over_few h1 hM h7;omega
 | @done n K hn=>
  intro L r' hp hl hd;have qk:∀ t,¬ NewB rp L t:=λ t ht=>hn t (new_congr h.symm (perm_keys hp.symm) ht)
  have hlen:=hp.length_eq
  cases hd with
  | fk M _ h2 h3=>
   exfalso
   cases M with
   | nil=>simp at h3;omega
   | cons t q=>exact qk t (h2 t List.mem_cons_self)
  | done _=>exact .inr ⟨_,_,rfl,rfl,hp,hl⟩
  | @more _ _ L1 _ h1 _ _ h4 _ _=>
   exfalso
   cases L1 with
   | nil=>exact h1 rfl
   | cons p q=>exact qk p.1 ((h4 p.1).1 ⟨p.2,List.mem_cons_self⟩)
 | @more n K L0 r h1 h2 h3 h4 h5 hc ih=>
  intro L r' hp hl hd;have hlen:=hp.length_eq
  cases hd with
  | fk M fa eG ey=>
   exfalso
   have:=over_few fa (λ t ht=>new_congr h.symm (perm_keys hp.symm) (eG t ht)) h4;omega
  | done hn=>
   exfalso
   cases L0 with
   | nil=>exact h1 rfl
   | cons p q=>exact hn p.1 (new_congr h (perm_keys hp) ((h4 p.1).1 ⟨p.2,List.mem_cons_self⟩))
  | more g1 g2 g3 g4 g5 gc=>
   refine ih (hp.append (new_perm h2 g2 h3 g3 λ t=>?_)) (by rw[List.length_append];exact h5) gc;rw[h4 t,g4 t];exact⟨new_congr h (perm_keys hp),new_congr h.symm (perm_keys hp.symm)⟩
theorem strat_det (h:bg rs rp){r:Option (List (Th × Nat))}(hc:PStrat rs S limit count s K r):∀ {L:List (Th × Nat)} {r':Option (List (Th × Nat))},K.Perm L->K.length<=limit->PStrat rp S limit count s L r'->(r=none/\r'=none)\/∃ K' L',r=some K'/\r'=some L'/\K'.Perm L'/\K'.length<=limit:=by
 induction hc with
 | ends h1=>
  intro L r' hp hl hd
  cases hd with
  | ends _=>exact .inr ⟨_,_,rfl,rfl,hp,hl⟩
  | fK h2 _=>omega
  | next h2 _ _=>omega
 | fK h1 h2=>
  intro L r' hp hl hd
  cases hd with
  | ends _=>omega
  | fK _ _=>exact .inl ⟨rfl,rfl⟩
  | next _ h3 _=>
   rcases climb_det (h.filter S _) h2 hp hl h3 with⟨_,e⟩ | ⟨_,_,e,_⟩
   ·cases e
   ·cases e
 | next h1 h2 _ ih=>
  intro L r' hp hl hd
  cases hd with
  | ends _=>omega
  | fK _ h3=>
   rcases climb_det (h.filter S _) h2 hp hl h3 with⟨e,_⟩ | ⟨_,_,_,e,_⟩
   ·cases e
   ·cases e
  | next _ h3 h4=>
   rcases climb_det (h.filter S _) h2 hp hl h3 with⟨e,_⟩ | ⟨_,_,e1,e2,e3,e4⟩
   ·cases e
   ·obtain rfl:=Option.some.inj e1;obtain rfl:=Option.some.inj e2;exact ih e3 e4 h4
theorem low_uniq {rs rp:List PRule}(h:∀ R,R∈rs↔R∈rp){T:B8->Nat}(h1:ValidN rs S)(h2:LowN rs S)(h3:ValidN rp T)(h4:LowN rp T):S=T:=by
 funext k
 have a:=h2 T (λ R hR=>h3 R ((h R).1 hR)) k;have b:=h4 S (λ R hR=>h1 R ((h R).2 hR)) k;omega
end
section
open Go.RowKit Go.Maps
structure dt (s:B8)(xb:Nat)(w:W8)(lo:Nat)(rs:List PR):Prop where
 ok:(refLoad s).1=true
 prog:ProgIn w lo xb rs
 rules:rs.map (·.R)=(pparsed s).2.2.1
variable {rs:List PR} {lo xb:Nat} {w:W8} {s:B8}
theorem dt.cg (h:dt s xb w lo rs):∀ r∈rs,r.bs.map (·.1)=r.R.body:=λ r hr=>by
 obtain⟨a,c,_,_,eI⟩:=h.prog;exact (eI.each r hr).eq
theorem dt.below {w':W8}(h:dt s xb w lo rs)(k:Below w.heap.size w w'):dt s xb w' lo rs:=by
 obtain⟨a,c,h1,h2,h3⟩:=h.prog;exact⟨h.ok,⟨a,c,(k.block _ (Array.getElem?_eq_some_iff.1 h1).1).trans h1,h2,h3.iY k L9⟩,h.rules⟩
theorem dt.dh (h:dt s xb w lo rs):∀ r∈rs,bF (aj s).2 r:=(rules_rel h.ok h.rules h.cg).dh
variable {r:Option (List (Th × Nat))} {K:List (Th × Nat)} {limit:Nat} {TI:Th->Prop}
theorem climb_ti (hc:dr rs TI){n:Nat}(h:PClimb rs limit n K r):(∀ p∈K,TI p.1)->∀ K',r=some K'->∀ p∈K',TI p.1:=by
 induction h with
 | fk _ _ _ _=>intro _ K' e;cases e
 | done _=>intro hK K' e;obtain rfl:=Option.some.inj e;exact hK
 | more _ _ _ h4 _ _ ih=>
  intro hK;refine ih λ p hp=>?_
  rcases List.mem_append.1 hp with hp | hp
  ·exact hK p hp
  ·exact hc.new hK ((h4 p.1).1 ⟨p.2,hp⟩)
variable {S:B8->Nat}
theorem strat_ti (hc:dr rs TI){count s:Nat}(h:PStrat rs S limit count s K r):(∀ p∈K,TI p.1)->∀ K',r=some K'->∀ p∈K',TI p.1:=by
 induction h with
 | ends _=>intro hK K' e;obtain rfl:=Option.some.inj e;exact hK
 | fK _ _=>intro _ K' e;cases e
 | next _ h2 _ ih=>exact λ hK=>ih (climb_ti (hc.filter _) h2 hK _ rfl)
noncomputable def reaK (ps:P9)(rp:List PR)(Sp:B8->Nat)(K:List (Th × Nat))(O:List Pl):Nat->Nat × List Nat:=open Classical in if h:∃ r,OfArg ps Sp rp K O r then h.choose else λ _=>(0,[])
variable {O:List Pl} {rp:List PR} {ps:P9}
theorem reaK_ok {Sp:B8->Nat}(h:∃ r,OfArg ps Sp rp K O r):OfArg ps Sp rp K O (reaK ps rp Sp K O):=by
 unfold reaK;rw[dif_pos h];exact h.choose_spec
structure Mod (s:B8)(rs:List PR)(limit:Nat)(S:B8->Nat)(m:Nat)(r:Option (List (Th × Nat))):Prop where
 valid:ValidN (rs.map (·.R)) S
 low:LowN (rs.map (·.R)) S
 count:IsCount (aj s).2 S m
 gJ:PStrat rs S limit m 0 [] r
variable {m:Nat}
theorem Mod.GO (cT:∀ r∈rs,r.bs.map (·.1)=r.R.body)(h:Mod s rs limit S m (some K)):∃ n,m<=n/\WhyK rs S n 1 K:=strat_why (λ r hr=>h.valid r.R (List.mem_map_of_mem hr)) cT h.gJ (why_nil _ _) K rfl
theorem Mod.ti (hg:∀ r∈rs,bF (aj s).2 r)(h:Mod s rs limit S m (some K)):∀ p∈K,eE (aj s).2 p.1:=strat_ti (closed_of hg) h.gJ (by simp) K rfl
theorem Mod.j8 (cT:∀ r∈rs,r.bs.map (·.1)=r.R.body)(hg:∀ r∈rs,bF (aj s).2 r)(h:Mod s rs limit S m (some K))(hO:O.Perm (K.map (plOf S)))(jS:O.Pairwise λ p q=>lessPl p q=true):OfArg (aj s).2 S rs K O (reaK (aj s).2 rs S K O):=by
 obtain⟨n,_,hw⟩:=h.GO cT;exact reaK_ok (why_arg hg (h.ti hg) hw hO jS)
theorem pent_query (h:dt s xb w lo rs)(q:B8)(hq:q.size<=2000000)(limit:Int):Calls Tryz.prog 20 #[.pointer (some ⟨xb,0,none⟩),.string q,.int .i64 limit] w λ e w'=>PQOut w rs (aj s).2 q limit w' e/\Below w.heap.size w w':=by
 have hg:=good_of h.ok;have hr:=h.rules;have eL:=h.cg;obtain⟨f0,jM,jd⟩:=hg.some_;have ak:∀ r∈rs,r.R∈(pparsed s).2.2.1:=λ r dH=>by rw[<-hr];exact List.mem_map_of_mem dH
 have oi:∀ r∈rs,∀ x∈r.bs,x.1∈r.R.body:=λ r dH x hx=>by rw[<-eL r dH];exact List.mem_map_of_mem hx
 have hl:rs.length<=30:=by have:=hg.len;rw[<-hr,List.length_map] at this;exact this
 exact pquery_any w lo xb rs (aj s).2 q limit (eE (aj s).2) hq h.prog hl (λ r dH=>by have:=hg.body r.R (ak r dH);rw[<-eL r dH,List.length_map] at this;exact this) (λ r dH=>hg.pd r.R (ak r dH)) (λ r dH x hx=>hg.vW r.R (ak r dH) x.1 (oi r dH x hx)) (by rw[hr];exact hg.agree) (by rw[hr];exact hg.met) (by have:=hg.ft;omega) (λ r dH=>⟨(hg.named r.R (ak r dH)).1,λ x hx=>(hg.named r.R (ak r dH)).2 x.1 (oi r dH x hx)⟩) f0 (by rw[hr];exact jM) jd (closed_of h.dh) (λ t ht=>th_len ht)
theorem pent_explain (h:dt s xb w lo rs)(q:B8)(hq:q.size<=2000000)(limit:Int):Calls Tryz.prog 26 #[.pointer (some ⟨xb,0,none⟩),.string q,.int .i64 limit] w λ e w'=>PEOut w rs (aj s).2 q limit (reaK (aj s).2 rs) w' e/\Below w.heap.size w w':=by
 have hg:=good_of h.ok;have hr:=h.rules;have eL:=h.cg;obtain⟨f0,jM,jd⟩:=hg.some_;have ak:∀ r∈rs,r.R∈(pparsed s).2.2.1:=λ r dH=>by rw[<-hr];exact List.mem_map_of_mem dH
 have oi:∀ r∈rs,∀ x∈r.bs,x.1∈r.R.body:=λ r dH x hx=>by rw[<-eL r dH];exact List.mem_map_of_mem hx
 have hl:rs.length<=30:=by have:=hg.len;rw[<-hr,List.length_map] at this;exact this
 exact pexp_any w lo xb rs (aj s).2 q limit (reaK (aj s).2 rs) hq h.prog hl (λ r dH=>by have:=hg.body r.R (ak r dH);rw[<-eL r dH,List.length_map] at this;exact this) (λ r dH=>hg.pd r.R (ak r dH)) (λ r dH x hx=>hg.vW r.R (ak r dH) x.1 (oi r dH x hx)) (by rw[hr];exact hg.agree) (by rw[hr];exact hg.met) (by have:=hg.ft;omega) (λ r dH=>⟨(hg.named r.R (ak r dH)).1,λ x hx=>(hg.named r.R (ak r dH)).2 x.1 (oi r dH x hx)⟩) f0 (by rw[hr];exact jM) jd (closed_of h.dh) h.dh ask_thok (λ _ Sp m K sS uB hc dj O hO jS=>Mod.j8 eL h.dh ⟨sS,uB,hc,dj⟩ hO jS)
variable {e:Ending} {t:Th} {q:B8}
theorem chk_sound (h:dt s xb w lo rs)(hM:Mod s rs limit S m (some K))(ht:thingS (aj s).2 q=some t){bs:List Nat}(hE:PChkE s q bs e):∃ v:Nat,e=.returned (.int .i64 (v:Nat))/\(v=1\/v=2\/v=3)/\(v=1->t∈K.map (·.1))/\(v=2->t∉K.map (·.1)):=by
 rcases hE with⟨hn,_⟩ | ⟨_,rp,jC,cT,hE⟩
 ·rw[h.ok] at hn;cases hn
 ·rcases hE with⟨hn,_⟩ | ⟨t',Sp,sN,sS,uB,hE⟩
  ·rw[ht] at hn;cases hn
  ·rw[ht] at sN;obtain rfl:=Option.some.inj sN;have jg:bg rs rp:=⟨λ R=>by rw[h.rules,jC],h.cg,cT⟩;obtain rfl:S=Sp:=low_uniq jg.mem hM.valid hM.low sS uB;rcases hE with⟨m',k,st,lY,hR,rfl⟩ | ⟨_,rfl⟩
   ·obtain rfl:=count_uniq hM.count lY;have hg:=(rules_rel h.ok jC cT).dh;obtain⟨h1,h2⟩:=right_sound sS cT hg lY hR (fm jg hM.gJ);refine⟨_,rfl,?_,λ e=>?_,λ e=>?_⟩
    ·unfold showV;split
     ·exact .inl rfl
     ·split
      ·exact .inr (.inr rfl)
      ·exact .inr (.inl rfl)
    ·unfold showV at e
     split at e
     ·rename_i ak;exact h1 t ak
     ·split at e <;> cases e
    ·unfold showV at e
     split at e
     ·cases e
     ·rename_i l6
      split at e
      ·cases e
      ·rename_i hk;intro ak;refine l6 (h2 t ak ?_);obtain⟨p,hp,rfl⟩:=List.mem_map.1 ak;have hn:=(hM.ti h.dh p hp).num;have qk:(numOf (aj s).2 p.1.p).isSome=true:=(by rw[show p.1.p=p.1.1 from rfl,hn];rfl);exact Nat.lt_of_not_le λ hle=>hk ⟨qk,hle⟩
   ·exact⟨3,rfl,.inr (.inr rfl),(λ e=>by cases e),(λ e=>by cases e)⟩
theorem rows_congr {r q:PR}(h1:posOf r.bs=posOf q.bs)(h2:negOf r.bs=negOf q.bs)(h3:aO r=aO q)(N:List (Th × Nat))(t:Th):rowsTo N r t=rowsTo N q t:=by
 unfold rowsTo;rw[h1,h2,h3]
theorem arg_congr (hm:rs.map (·.R)=rp.map (·.R))(ha:∀ r∈rs,r.bs.map (·.1)=r.R.body)(hb:∀ r∈rp,r.bs.map (·.1)=r.R.body){rea:Nat->Nat × List Nat}(h:OfArg ps S rs K O rea):OfArg ps S rp K O rea:=by
 have hlen:rs.length=rp.length:=by have:=congrArg List.length hm;rwa [List.length_map,List.length_map] at this
 have gT:∀ (i:Nat) (h1:i<rs.length) (h2:i<rp.length) (N:List (Th × Nat)) (t:Th),rowsTo N rs[i] t=rowsTo N rp[i] t:=λ i h1 h2 N t=>by
  have e:rs[i].R=rp[i].R:=by
   have:=congrArg (λ l=>l[i]?) hm;simp only[List.getElem?_map,List.getElem?_eq_getElem h1,List.getElem?_eq_getElem h2,Option.map_some] at this;exact Option.some.inj this
  exact rows_congr (pos_of (ha _ (List.getElem_mem h1)) (hb _ (List.getElem_mem h2)) e) (neg_of (ha _ (List.getElem_mem h1)) (hb _ (List.getElem_mem h2)) e) (hd_of e) N t
 refine⟨h.perm,λ i hi=>?_,h.len,h.low⟩;have hl:=h.least i hi;have bP:(rea i).1<rp.length:=by have:=hl.lt;omega
 refine⟨λ j hj vJ=>?_,bP,?_,λ row hr=>?_⟩
 ·rw[<-gT j (by omega) hj];exact hl.low j (by omega) vJ
 ·rw[<-gT _ hl.lt bP];exact hl.mem
 ·rw[<-gT _ hl.lt bP] at hr;exact hl.least row hr
theorem chk_proved (h:dt s xb w lo rs)(hl:limit<=50)(hM:Mod s rs limit S m (some K))(hlen:K.length<=limit)(ht:thingS (aj s).2 q=some t)(hO:O.Perm (K.map (plOf S)))(jS:O.Pairwise λ p q=>lessPl p q=true)(hE:PChkE s q (expL (aj s).2 S K t (reaK (aj s).2 rs S K O) O) e):e=.returned (.int .i64 ((if (ay K t).isSome then 1 else 2:Nat):Nat)):=by
 rcases hE with⟨hn,_⟩ | ⟨_,rp,jC,cT,hE⟩
 ·rw[h.ok] at hn;cases hn
 ·rcases hE with⟨hn,_⟩ | ⟨t',Sp,sN,sS,uB,hE⟩
  ·rw[ht] at hn;cases hn
  ·rw[ht] at sN;obtain rfl:=Option.some.inj sN;have jg:bg rs rp:=⟨λ R=>by rw[h.rules,jC],h.cg,cT⟩;obtain rfl:S=Sp:=low_uniq jg.mem hM.valid hM.low sS uB;have hg:=(rules_rel h.ok jC cT).dh;have hA:=arg_congr (h.rules.trans jC.symm) h.cg cT (hM.j8 h.cg h.dh hO jS);have vE:Mod s rp limit S m (some K):=⟨sS,uB,hM.count,fm jg hM.gJ⟩;obtain⟨n,hn,hw⟩:=vE.GO cT;obtain⟨st,hR,ak,dj⟩:=wit_right (λ r hr=>sS r.R (List.mem_map_of_mem hr)) cT hg hM.count hn hw (vE.ti hg) (by omega) hA t;rcases hE with⟨m',k,fF,lY,qf,rfl⟩ | ⟨cP,_⟩
   ·obtain rfl:=count_uniq hM.count lY;obtain⟨rfl,rfl⟩:=hR.uniq qf;have key:showV (aj s).2 S (a8 (aj s).2 S K t) (st.map (·.t)) t=if (ay K t).isSome then 1 else 2:=by
     by_cases hk:t∈K.map (·.1)
     ·unfold showV;rw[if_pos (dj hk),if_pos (look_keys.2 hk)]
     ·have hl:¬ (ay K t).isSome=true:=λ hx=>hk (look_keys.1 hx)
      have hc:¬ ((numOf (aj s).2 t.p).isSome=true/\a8 (aj s).2 S K t<=S t.p):=by
       rintro⟨h1,h2⟩;have vC:(numOf (aj s).2 t.1).isSome=true:=h1;unfold a8 at h2;rw[if_pos vC,if_neg hl] at h2;have rX:S t.1+1<=S t.1:=h2;omega
      unfold showV;rw[if_neg (λ hx=>hk (ak t hx)),if_neg hc,if_neg hl]
    rw[key]
   ·exact absurd hR (cP _ _ _ hM.count)
end
end Go.Proofs.YtldkpahaocjdpaaGreat
