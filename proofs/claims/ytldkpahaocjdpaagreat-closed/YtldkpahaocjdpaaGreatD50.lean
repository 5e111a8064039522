/-
  Plain: the four more rules say what they say; of the others nothing changes.
-/
import Derived.Test.YtldkpahaocjdpaaGreatD49
set_option maxHeartbeats 16000000
set_option maxRecDepth 1000000
namespace Go.Proofs.YtldkpahaocjdpaaGreat
section
structure bJ (Ls:List KL)(rs:List PR)(T:Th->Prop):Prop where
 Ma:∀ L∈Ls,L.Ok
 rules:rs.map (·.R)=Ls.map KL.rule++ze8
 cg:∀ r∈rs,r.bs.map (·.1)=r.R.body
 set:fq rs T
 len:∀ t,T t->t.2.length=arC t.1
variable {R:yG} {T:Th->Prop} {rs:List PR} {Ls:List KL}
theorem bJ.rule (h:bJ Ls rs T)(hR:R∈Ls.map KL.rule++ze8):∃ r∈rs,r.R=R:=by
 rw[<-h.rules] at hR;obtain⟨r,hr,e⟩:=List.mem_map.1 hR;exact⟨r,hr,e⟩
variable {L:KL}
theorem zwe (h:L.Ok):∃ i,i<4/\L.rule.pd=fl i:=(KL.atoms h (L.rule.pd,L.rule.ts.length) List.mem_cons_self).2
theorem zr4:∀ i,i<4->fl i≠zzB/\fl i≠yyB/\fl i≠xxB/\fl i≠wwB:=by decide
theorem yau:zzB≠yyB/\zzB≠xxB/\zzB≠wwB/\yyB≠xxB/\yyB≠wwB/\xxB≠wwB:=by decide
theorem bJ.mS (h:bJ Ls rs T){r:PR}(hr:r∈rs):(∃ L∈Ls,r.R=L.rule)\/r.R=fo\/r.R=fh\/r.R=fg\/r.R=ff:=by
 have hm:r.R∈Ls.map KL.rule++ze8:=by rw[<-h.rules];exact List.mem_map_of_mem hr
 rcases List.mem_append.1 hm with hm | hm
 ·obtain⟨L,hL,e⟩:=List.mem_map.1 hm;exact .inl ⟨L,hL,e.symm⟩
 ·right
  simpa[ze8] using hm
theorem bJ.GO {Ls:List KL}{rs:List PR}{T:Th->Prop}(h:bJ Ls rs T){t:Th}(ht:T t):∃ R,((∃ L∈Ls,R=L.rule)\/R=fo\/R=fh\/R=fg\/R=ff)/\R.pd=t.1/\∃ e ts,pmL (zK (zpx R).bs) ts []=some e/\zT e (vJ (zpx R))=t/\(∀ u∈ts,T u)/\∀ x∈xU (zpx R).bs,¬ T (zT e x):=by
 obtain⟨r,hr,e,ts,h1,h2,h3,h4⟩:=h.set.GO ht;obtain⟨e1,e2,e3⟩:=zyo (h.cg r hr) rfl;rw[e1] at h1;rw[e2] at h4;rw[e3] at h2;exact⟨r.R,h.mS hr,by rw[<-h2];rfl,e,ts,h1,h2,h3,h4⟩
variable {ts:List Th} {e:zX}
theorem bJ.up (h:bJ Ls rs T)(hR:R∈Ls.map KL.rule++ze8)(h1:pmL (zK (zpx R).bs) ts []=some e)(h3:∀ u∈ts,T u)(h4:∀ x∈xU (zpx R).bs,¬ T (zT e x)):T (zT e (vJ (zpx R))):=by
 obtain⟨r,hr,e0⟩:=h.rule hR;obtain⟨e1,e2,e3⟩:=zyo (h.cg r hr) e0;have:=h.set.closed r hr e ts (by rw[e1];exact h1) h3 (by rw[e2];exact h4)
 rwa [e3] at this
theorem bJ.is (h:bJ Ls rs T){k:B8}(hR:(∃ L∈Ls,R=L.rule)\/R=fo\/R=fh\/R=fg\/R=ff)(hp:R.pd=k):(k=zzB->R=fo)/\(k=yyB->R=fh)/\(k=xxB->R=fg)/\(k=wwB->R=ff)/\((∃ i,i<4/\k=fl i)->∃ L∈Ls,R=L.rule):=by
 obtain⟨m1,m2,m3,m4,m5,m6⟩:=yau;subst hp;rcases hR with⟨L,hL,rfl⟩ | rfl | rfl | rfl | rfl
 ·obtain⟨i,hi,e⟩:=zwe (h.Ma L hL);obtain⟨n1,n2,n3,n4⟩:=zr4 i hi;rw[e];exact⟨λ h=>absurd h n1,λ h=>absurd h n2,λ h=>absurd h n3,λ h=>absurd h n4,λ _=>⟨L,hL,rfl⟩⟩
 ·exact⟨λ _=>rfl,λ h=>absurd h m1,λ h=>absurd h m2,λ h=>absurd h m3,λ ⟨i,hi,e⟩=>absurd e.symm (zr4 i hi).1⟩
 ·exact⟨λ h=>absurd h.symm m1,λ _=>rfl,λ h=>absurd h m4,λ h=>absurd h m5,λ ⟨i,hi,e⟩=>absurd e.symm (zr4 i hi).2.1⟩
 ·exact⟨λ h=>absurd h.symm m2,λ h=>absurd h.symm m4,λ _=>rfl,λ h=>absurd h m6,λ ⟨i,hi,e⟩=>absurd e.symm (zr4 i hi).2.2.1⟩
 ·exact⟨λ h=>absurd h.symm m3,λ h=>absurd h.symm m5,λ h=>absurd h.symm m6,λ _=>rfl,λ ⟨i,hi,e⟩=>absurd e.symm (zr4 i hi).2.2.2⟩
variable {e0:zX} {A:yY}
theorem zpw (h:pmL [A] ts e0=some e):∃ u,ts=[u]/\zV e0 A u=some e:=by
 cases ts with
 | nil=>cases h
 | cons u q=>
  rw[pmL] at h
  cases hm:zV e0 A u with
  | none=>rw[hm] at h;cases h
  | some e'=>
   rw[hm] at h
   cases q with
   | nil=>exact⟨u,rfl,by rw[hm];exact h⟩
   | cons v q=>cases h
theorem z7d {r:List yY}(h:pmL (A::r) ts e0=some e):∃ u q e',ts=u::q/\zV e0 A u=some e'/\pmL r q e'=some e:=by
 cases ts with
 | nil=>cases h
 | cons u q=>
  rw[pmL] at h
  cases hm:zV e0 A u with
  | none=>rw[hm] at h;cases h
  | some e'=>rw[hm] at h;exact⟨u,q,e',rfl,hm,h⟩
theorem z0f {i:Nat}(h:i<4):arC (fl i)=2:=(yeb i h).1
theorem ag (c:UInt8)(a:B8)(r:zX):pAt ((yA c,a)::r) (yA c)=some a:=by rw[zdy,if_pos (by simp)]
theorem at2 {c d:UInt8}(h:c≠d)(a:B8)(r:zX):pAt ((yA c,a)::r) (yA d)=pAt r (yA d):=by rw[zdy,if_neg (by simpa using h)]
theorem zgr {v x:B8}(h:pAt e v=some x):cd e (true,v)=x:=by unfold cd dr;rw[if_pos rfl,h];rfl
theorem z2r {P a b:B8}{t u:Bool × B8}(h1:cd e t=a)(h2:cd e u=b):zT e ⟨P,[t,u]⟩=(P,[a,b]):=by
 show (P,[cd e t,cd e u])=_
 rw[h1,h2]
theorem z4v (c d:B8):zT [(yA 89,c),(yA 88,d)] (vJ (zpx fo))=(zzB,[d,c]):=z2r (zgr (by rw[at2 (by decide),ag])) (zgr (by rw[ag]))
theorem zu2 (P c d:B8):zT [(yA 88,c),(yA 89,d)] ⟨P,[vX,vY]⟩=(P,[c,d]):=z2r (zgr (by rw[ag])) (zgr (by rw[at2 (by decide),ag]))
theorem z4t (c d:B8):zT [(yA 88,c),(yA 89,d)] (vJ (zpx fg))=(xxB,[c,d]):=zu2 xxB c d
theorem z4u (a b d:B8):zT [(yA 88,a),(yA 89,b),(yA 90,d)] (vJ (zpx fh))=(yyB,[a,d]):=z2r (zgr (by rw[ag])) (zgr (by rw[at2 (by decide),at2 (by decide),ag]))
theorem z4s (a:B8):zT [(yA 88,a)] (vJ (zpx ff))=(wwB,[a]):=by
 show (wwB,[cd [(yA 88,a)] vX])=_
 rw[show cd [(yA 88,a)] vX=a from zgr (by rw[ag])]
theorem bJ.zz (h:bJ Ls rs T)(a b:B8):T (zzB,[a,b])↔T (fl 3,[b,a]):=by
 constructor
 ·intro ht;obtain⟨R,hR,hp,e,ts,h1,h2,h3,_⟩:=h.GO ht;obtain rfl:=(h.is hR hp).1 rfl;have h1:pmL [⟨fl 3,[vY,vX]⟩] ts []=some e:=h1;obtain⟨u,rfl,hm⟩:=zpw h1;have hu:=h3 u List.mem_cons_self;obtain⟨c,d,rfl,rfl⟩:=zuc (c:=89) (d:=88) (by decide) (λ hx=>by rw[h.len u hu,hx];exact z0f (by decide)) hm;rw[z4v] at h2;injection h2 with _ h2
  injection h2 with e1 h2
  injection h2 with e2 _
  rw[<-e1,<-e2];exact hu
 ·intro ht;rw[<-z4v b a]
  exact h.up (R:=fo) (List.mem_append_right _ (by simp[ze8])) (ts:=[(fl 3,[b,a])]) (e:=[(yA 89,b),(yA 88,a)]) (by
   show pmL [⟨fl 3,[vY,vX]⟩] [(fl 3,[b,a])] []=_
   rw[pmL,show zV [] ⟨fl 3,[vY,vX]⟩ (fl 3,[b,a])=_ from zwm (by decide) _ _ _];rfl) (vN ht) (λ x hx=>by cases hx)
theorem bJ.xx (h:bJ Ls rs T)(a b:B8):T (xxB,[a,b])↔T (fl 0,[a,b])/\¬ T (fl 3,[a,b]):=by
 constructor
 ·intro ht;obtain⟨R,hR,hp,e,ts,h1,h2,h3,h4⟩:=h.GO ht;obtain rfl:=(h.is hR hp).2.2.1 rfl;have h1:pmL [⟨fl 0,[vX,vY]⟩] ts []=some e:=h1;obtain⟨u,rfl,hm⟩:=zpw h1;have hu:=h3 u List.mem_cons_self;obtain⟨c,d,rfl,rfl⟩:=zuc (c:=88) (d:=89) (by decide) (λ hx=>by rw[h.len u hu,hx];exact z0f (by decide)) hm;have h4:=h4 ⟨fl 3,[vX,vY]⟩ List.mem_cons_self;rw[zu2] at h4;rw[z4t] at h2;injection h2 with _ h2
  injection h2 with e1 h2
  injection h2 with e2 _
  rw[<-e1,<-e2];exact⟨hu,h4⟩
 ·rintro⟨ht,hn⟩;rw[<-z4t a b]
  exact h.up (R:=fg) (List.mem_append_right _ (by simp[ze8])) (ts:=[(fl 0,[a,b])]) (e:=[(yA 88,a),(yA 89,b)]) (by
   show pmL [⟨fl 0,[vX,vY]⟩] [(fl 0,[a,b])] []=_
   rw[pmL,show zV [] ⟨fl 0,[vX,vY]⟩ (fl 0,[a,b])=_ from zwm (by decide) _ _ _];rfl) (vN ht) (λ x hx=>by
   have hx:x=⟨fl 3,[vX,vY]⟩:=List.mem_singleton.1 hx;subst hx;rw[zu2]
   exact hn)
theorem bJ.yy (h:bJ Ls rs T)(a d:B8):T (yyB,[a,d])↔∃ b,T (fl 1,[a,b])/\T (fl 2,[b,d]):=by
 have AP:∀ (a b c d:B8),zV [(yA 88,a),(yA 89,b)] ⟨fl 2,[vY,vZ]⟩ (fl 2,[c,d])=if b.toList==c.toList then some [(yA 88,a),(yA 89,b),(yA 90,d)] else none:=λ a b c d=>by
  rw[pm2,if_pos (zU.2 rfl),show vY=(true,yA 89) from rfl,z2w (x:=b) (by rw[zdy,if_neg (by decide),zdy,if_pos (by decide)])]
  by_cases hx:(b.toList==c.toList)=true
  ·rw[if_pos hx,if_pos hx];simp only;rw[show vZ=(true,yA 90) from rfl,ziw (by rw[zdy,if_neg (by decide),zdy,if_neg (by decide)];rfl)];rfl
  ·rw[if_neg hx,if_neg hx]
 constructor
 ·intro ht;obtain⟨R,hR,hp,e,ts,h1,h2,h3,_⟩:=h.GO ht;obtain rfl:=(h.is hR hp).2.1 rfl;have h1:pmL [⟨fl 1,[vX,vY]⟩,⟨fl 2,[vY,vZ]⟩] ts []=some e:=h1;obtain⟨u,q,e',rfl,hm,h1⟩:=z7d h1;obtain⟨v,rfl,eG⟩:=zpw h1;have hu:=h3 u List.mem_cons_self;have hv:=h3 v (List.mem_cons_of_mem _ List.mem_cons_self);obtain⟨a',b',rfl,rfl⟩:=zuc (c:=88) (d:=89) (by decide) (λ hx=>by rw[h.len u hu,hx];exact z0f (by decide)) hm;have Ny:fl 2=v.1:=by
   unfold zV at eG
   split at eG
   ·rename_i hx;exact zU.1 hx
   ·cases eG
  obtain⟨c',d',Kb⟩:=zmh (t:=v) (by rw[h.len v hv,<-Ny];exact z0f (by decide));rw[<-Ny] at Kb;subst Kb;rw[AP] at eG
  split at eG
  ·rename_i hx;have Fm:b'=c':=zU.1 hx;subst Fm;obtain rfl:=Option.some.inj eG;rw[z4u] at h2;injection h2 with _ h2
   injection h2 with e1 h2
   injection h2 with e2 _
   rw[<-e1,<-e2];exact⟨b',hu,hv⟩
  ·cases eG
 ·rintro⟨b,h1,h2⟩;rw[<-z4u a b d]
  exact h.up (R:=fh) (List.mem_append_right _ (by simp[ze8])) (ts:=[(fl 1,[a,b]),(fl 2,[b,d])]) (e:=[(yA 88,a),(yA 89,b),(yA 90,d)]) (by
   show pmL [⟨fl 1,[vX,vY]⟩,⟨fl 2,[vY,vZ]⟩] [(fl 1,[a,b]),(fl 2,[b,d])] []=_
   rw[pmL,show zV [] ⟨fl 1,[vX,vY]⟩ (fl 1,[a,b])=_ from zwm (by decide) _ _ _];simp only
   rw[pmL,AP,if_pos (zU.2 rfl)];rfl) (zN h1 h2) (λ x hx=>by cases hx)
theorem bJ.ww (h:bJ Ls rs T)(a:B8):T (wwB,[a])↔T (fl 0,[a,a]):=by
 have AP:∀ (a b:B8),zV [] ⟨fl 0,[vX,vX]⟩ (fl 0,[a,b])=if a.toList==b.toList then some [(yA 88,a)] else none:=λ a b=>by
  rw[pm2,if_pos (zU.2 rfl),show vX=(true,yA 88) from rfl,ziw (show pAt [] (yA 88)=none from rfl)];simp only[List.nil_append];rw[z2w (x:=a) (by rw[zdy,if_pos (by decide)])]
  by_cases hx:(a.toList==b.toList)=true
  ·rw[if_pos hx]
  ·rw[if_neg hx]
 constructor
 ·intro ht;obtain⟨R,hR,hp,e,ts,h1,h2,h3,_⟩:=h.GO ht;obtain rfl:=(h.is hR hp).2.2.2.1 rfl;have h1:pmL [⟨fl 0,[vX,vX]⟩] ts []=some e:=h1;obtain⟨u,rfl,hm⟩:=zpw h1;have hu:=h3 u List.mem_cons_self;have sR:fl 0=u.1:=by
   unfold zV at hm
   split at hm
   ·rename_i hx;exact zU.1 hx
   ·cases hm
  obtain⟨c',d',Kb⟩:=zmh (t:=u) (by rw[h.len u hu,<-sR];exact z0f (by decide));rw[<-sR] at Kb;subst Kb;rw[AP] at hm
  split at hm
  ·rename_i hx;have Fm:c'=d':=zU.1 hx;subst Fm;obtain rfl:=Option.some.inj hm;rw[z4s] at h2;injection h2 with _ h2
   injection h2 with e1 _
   rw[<-e1];exact hu
  ·cases hm
 ·intro ht;rw[<-z4s a]
  exact h.up (R:=ff) (List.mem_append_right _ (by simp[ze8])) (ts:=[(fl 0,[a,a])]) (e:=[(yA 88,a)]) (by
   show pmL [⟨fl 0,[vX,vX]⟩] [(fl 0,[a,a])] []=_
   rw[pmL,AP,if_pos (zU.2 rfl)];rfl) (vN ht) (λ x hx=>by cases hx)
def yeu (t:Th):Prop:=∃ i,i<4/\t.1=fl i
theorem zv3 (h:L.Ok):(∀ a∈zK (zpx L.rule).bs,∃ i,i<4/\a.p=fl i)/\∀ a∈xU (zpx L.rule).bs,∃ i,i<4/\a.p=fl i:=by
 have key:∀ x∈(zpx L.rule).bs,∃ i,i<4/\x.1.pd=fl i:=λ x hx=>by
  have hx:x.1∈L.rule.body:=by
   have:=List.mem_map_of_mem (f:=(·.1)) hx
   rwa [zud] at this
  exact (KL.atoms h (x.1.pd,x.1.ts.length) (List.mem_cons_of_mem _ (List.mem_map.2 ⟨x.1,hx,rfl⟩))).2
 exact⟨λ a ha=>by obtain⟨x,hx,_,rfl⟩:=zpp.1 ha;exact key x hx,λ a ha=>by obtain⟨x,hx,_,rfl⟩:=zpn.1 ha;exact key x hx⟩
variable {rp:List PR}
theorem bJ.old (h:bJ Ls rs T)(aO:rp.map (·.R)=Ls.map KL.rule)(cT:∀ r∈rp,r.bs.map (·.1)=r.R.body){T':Th->Prop}(h':fq rp T'):∀ t,yeu t->(T t↔T' t):=by
 have ak:∀ r∈rp,∃ L∈Ls,r.R=L.rule:=λ r hr=>by
  have:r.R∈Ls.map KL.rule:=by rw[<-aO];exact List.mem_map_of_mem hr
  obtain⟨L,hL,e⟩:=List.mem_map.1 this;exact⟨L,hL,e.symm⟩
 have ln:fq rp (λ t=>T t/\yeu t):=by
  constructor
  ·rintro t ⟨ht,ho⟩;have hd:=h.set.ME t ht;clear ht
   induction hd with
   | @mk r e ts hr hm hd hn ih=>
    obtain⟨L,hL,e0⟩:=(h.is (h.mS hr) rfl).2.2.2.2 (by obtain⟨i,hi,e1⟩:=ho;exact⟨i,hi,e1⟩);obtain⟨q,hq,eq⟩:∃ q∈rp,q.R=L.rule:=by
     have:L.rule∈rp.map (·.R):=by rw[aO];exact List.mem_map_of_mem hL
     obtain⟨q,hq,e⟩:=List.mem_map.1 this;exact⟨q,hq,e⟩
    have hb:=h.cg r hr;have Ap:=cT q hq;have h1:zK r.bs=zK q.bs:=zwn hb Ap (e0.trans eq.symm);have h2:xU r.bs=xU q.bs:=zwb hb Ap (e0.trans eq.symm);have h3:vJ r=vJ q:=z6f (e0.trans eq.symm);have hl:=zv3 (h.Ma L hL);have kh:=zyo hb e0;rw[h3];refine .mk hq (by rw[<-h1];exact hm) (λ u hu=>ih u hu ?_) (λ x hx hT=>?_)
    ·obtain⟨a,ha,e1⟩:=zfr hm u hu;rw[kh.1] at ha;obtain⟨i,hi,e2⟩:=hl.1 a ha;exact⟨i,hi,by rw[<-e2,e1]⟩
    ·exact hn x (by rw[h2];exact hx) hT.1
  ·intro r hr e ts hm jh hn;obtain⟨L,hL,e0⟩:=ak r hr;obtain⟨e1,e2,e3⟩:=zyo (cT r hr) e0;have hl:=zv3 (h.Ma L hL)
   have ht:=h.up (R:=L.rule) (List.mem_append_left _ (List.mem_map_of_mem hL)) (e:=e) (ts:=ts) (by rw[<-e1];exact hm) (λ u hu=>(jh u hu).1) (λ x hx hT=>by
    refine hn x (by rw[e2];exact hx) ⟨hT,?_⟩;obtain⟨i,hi,e4⟩:=hl.2 x hx
    exact⟨i,hi,e4⟩)
   rw[e3];refine⟨ht,?_⟩;obtain⟨i,hi,e4⟩:=zwe (h.Ma L hL);exact⟨i,hi,e4⟩
 have bX:∀ r∈rp,qE (λ _=>2) pT r.R:=λ r hr=>by
  obtain⟨L,hL,e⟩:=ak r hr;rw[e];exact KL.ic (h.Ma L hL)
 have hu:=z19 (S:=pT) (λ r hr a ha=>by
  obtain⟨x,hx,_,rfl⟩:=zpp.1 ha
  exact (bX r hr).pos x.1 (by rw[<-cT r hr];exact List.mem_map_of_mem hx)) (λ r hr a ha=>by
  obtain⟨x,hx,hn,rfl⟩:=zpn.1 ha
  exact (bX r hr).neg x.1 (by rw[<-cT r hr];exact List.mem_map_of_mem hx) hn) ln h'
 exact λ t ho=>⟨λ ht=>(hu t).1 ⟨ht,ho⟩,λ ht=>((hu t).2 ht).1⟩
theorem z04 (cS:∀ L∈Ls,L.Ok)(aO:rp.map (·.R)=Ls.map KL.rule)(cT:∀ r∈rp,r.bs.map (·.1)=r.R.body)(h:fq rp T)(a b:B8):T (fl 0,[a,b])↔∃ i j,KL.fact i j∈Ls/\a=yA (ae i)/\b=yA (ae j):=by
 constructor
 ·intro ht;obtain⟨r,hr,e,ts,h1,h2,h3,h4⟩:=h.GO ht;have:r.R∈Ls.map KL.rule:=by rw[<-aO];exact List.mem_map_of_mem hr
  obtain⟨L,hL,e0⟩:=List.mem_map.1 this;obtain⟨e1,e2,e3⟩:=zyo (cT r hr) e0.symm;have eN:L.rule.pd=fl 0:=by
   rw[e3] at h2;exact congrArg Prod.fst h2
  have kO:∀ k,1<=k->k<4->fl k≠fl 0:=by
   intro k h1 h2;have:∀ k,k<4->1<=k->fl k≠fl 0:=by decide
   exact this k h2 h1
  have ho:=cS L hL
  cases L with
  | fact i j=>
   rw[e1] at h1;have h1:pmL [] ts []=some e:=h1
   cases ts with
   | nil=>
    obtain rfl:=Option.some.inj h1;rw[e3] at h2;have h2:(fl 0,[yA (ae i),yA (ae j)])=(fl 0,[a,b]):=h2;injection h2 with _ h2
    injection h2 with e4 h2
    injection h2 with e5 _
    exact⟨i,j,hL,e4.symm,e5.symm⟩
   | cons _ _=>cases h1
  | rev h' q x y=>exact absurd eN (kO h' ho.1 ho.2.1)
  | join h' q r x y z=>exact absurd eN (kO h' ho.1 ho.2.1)
  | minus h' q r x y=>exact absurd eN (kO h' ho.1 ho.2.1)
  | sX h' q r x y n m=>exact absurd eN (kO h' ho.1 ho.2.1)
 ·rintro⟨i,j,hL,rfl,rfl⟩;have:(KL.fact i j).rule∈rp.map (·.R):=by rw[aO];exact List.mem_map_of_mem hL
  obtain⟨r,hr,e0⟩:=List.mem_map.1 this;obtain⟨e1,e2,e3⟩:=zyo (cT r hr) e0;have:=h.closed r hr [] [] (by rw[e1];rfl) (by simp) (by rw[e2];intro x hx;cases hx);rw[e3] at this;exact this
end
section
variable {A:yY} {K:List (Th × Nat)}
theorem zhc {t:Th}(hW:∀ p∈K,tQ p.1)(ht:tQ t)(hA:∀ n,zk8 A (t,n)=true):yJ (yI t) (zj7 K A)=true↔yap K t:=by
 rw[zcw];unfold zj7;rw[Nc,List.mem_map]
 constructor
 ·rintro⟨p,hp,e⟩;have LX:=(List.mem_filter.1 hp).1;exact List.mem_map.2 ⟨p,LX,zjb (hW p LX) ht e⟩
 ·intro h;obtain⟨p,hp,rfl⟩:=List.mem_map.1 h;exact⟨p,List.mem_filter.2 ⟨hp,hA p.2⟩,rfl⟩
def zzT (x y:Nat):B8:=aj [122,122,40,ae x,44,ae y,41]
def yyT (x y:Nat):B8:=aj [121,121,40,ae x,44,ae y,41]
def xxT (x y:Nat):B8:=aj [120,120,40,ae x,44,ae y,41]
def wwT (x:Nat):B8:=aj [119,119,40,ae x,41]
def a8 (x:Nat):B8:=yA (ae x)
theorem zu0 (x:Nat):aM (a8 x):=by
 refine⟨by unfold a8;rw[nQ];decide,by unfold a8;rw[nQ];decide,λ c hc=>?_⟩;have hc:c=ae x:=List.mem_singleton.1 hc;rw[hc];rcases z9b x with h | h | h | h <;> rw[h] <;> decide
variable {c:UInt8}
theorem zkg (h:c≠40/\c≠41/\c≠44):aM { data:=#[c,c] }:=⟨(by show 0<2;decide),(by show 2<=8;decide),λ d hd=>by
 rcases List.mem_cons.1 hd with rfl | hd
 ·exact h
 ·rw[List.mem_singleton.1 hd];exact h⟩
theorem yb0:aM zzB:=zkg (c:=122) (by decide)
theorem ybz:aM yyB:=zkg (c:=121) (by decide)
theorem yby:aM xxB:=zkg (c:=120) (by decide)
theorem ybx:aM wwB:=zkg (c:=119) (by decide)
variable {P:B8}
theorem yeg (h:aM P)(x y:Nat):tQ (P,[a8 x,a8 y]):=⟨h,zN (zu0 x) (zu0 y)⟩
theorem ye0 (h:aM P)(x:Nat):tQ (P,[a8 x]):=⟨h,vN (zu0 x)⟩
theorem yek (x y:Nat):yI (zzB,[a8 x,a8 y])=zzT x y:=rfl
theorem yej (x y:Nat):yI (yyB,[a8 x,a8 y])=yyT x y:=rfl
theorem yei (x y:Nat):yI (xxB,[a8 x,a8 y])=xxT x y:=rfl
theorem yeh (x:Nat):yI (wwB,[a8 x])=wwT x:=rfl
def zve (P:B8)(c d:UInt8):yY:=⟨P,[(true,yA c),(true,yA d)]⟩
def ycn:yY:=⟨wwB,[(true,yA 65)]⟩
theorem yal {d:UInt8}(h:c≠d)(P a b:B8)(n:Nat):zk8 (zve P c d) ((P,[a,b]),n)=true:=by
 unfold zk8 zve;rw[zwm h];rfl
theorem yd5 (a:B8)(n:Nat):zk8 ycn ((wwB,[a]),n)=true:=by
 unfold zk8
 show (if (wwB.toList==wwB.toList)=true then zgz [] [(true,yA 65)] [a] else none).isSome=true
 rw[if_pos (zU.2 rfl)];rfl
variable {ps:P9}
theorem ybk (fQ:∀ k n,zZ ps k=some n->n=arC k)(h:A.ts.length=arC A.p):zb6 ps A=true:=by
 unfold zb6
 cases hn:zZ ps A.p with
 | none=>rfl
 | some m=>simp only;rw[fQ _ _ hn,h];simp
theorem zoe (fQ:∀ k n,zZ ps k=some n->n=arC k){q:B8}(hp:zc3 q=some A)(h:A.ts.length=arC A.p):vF ps q=some A:=by
 unfold vF;rw[hp];simp only;rw[if_pos (ybk fQ h)]
theorem zme (h:yZ c.toNat=true):jH (zbe (true,yA c)).1 (zbe (true,yA c)).2:=zea h
theorem z5q (fQ:∀ k n,zZ ps k=some n->n=arC k):vF ps { data:=#[122,122,40,88,44,89,41] }=some (zve zzB 88 89):=
 zoe fQ (zc4 (pd:=zzB) (zfk (by decide)) (zN (zme (by decide)) (zme (by decide))) (by simp) rfl) (by decide)
theorem z5p (fQ:∀ k n,zZ ps k=some n->n=arC k):vF ps { data:=#[121,121,40,65,44,66,41] }=some (zve yyB 65 66):=
 zoe fQ (zc4 (pd:=yyB) (zfk (by decide)) (zN (zme (by decide)) (zme (by decide))) (by simp) rfl) (by decide)
theorem z5o (fQ:∀ k n,zZ ps k=some n->n=arC k):vF ps { data:=#[120,120,40,65,44,66,41] }=some (zve xxB 65 66):=
 zoe fQ (zc4 (pd:=xxB) (zfk (by decide)) (zN (zme (by decide)) (zme (by decide))) (by simp) rfl) (by decide)
theorem z5n (fQ:∀ k n,zZ ps k=some n->n=arC k):vF ps { data:=#[119,119,40,65,41] }=some ycn:=
 zoe fQ (zc4 (pd:=wwB) (zfk (by decide)) (vN (zme (by decide))) (by simp) rfl) (by decide)
def tT (p x y:Nat):B8:=aj [pdU p,40,ae x,44,ae y,41]
theorem yee {x y:Nat}(hy:y<4)(p:Nat):zm0 p (4*x+y)=tT p x y:=by
 unfold zm0 tT;rw[show (4*x+y)/4=x by omega,show (4*x+y)%4=y by omega]
structure yep (R:Nat->Raw)(n:Nat)(zs Z Y X W:List B8):Prop where
 zz:∀ x y,x<4->y<4->yJ (zzT x y) Z=yJ (tT 3 y x) zs
 xx:∀ x y,x<4->y<4->yJ (xxT x y) X=(yJ (tT 0 x y) zs&&!yJ (tT 3 x y) zs)
 yy:∀ x y,x<4->y<4->yJ (yyT x y) Y=((List.range 4).any λ k=>yJ (tT 1 x k) zs&&yJ (tT 2 k y) zs)
 ww:∀ x,x<4->yJ (wwT x) W=yJ (tT 0 x x) zs
 facts:∀ i,i<16->yJ (zm0 0 i) zs=yJ (zm0 0 i) (qG R n)
theorem z95 {R:Nat->Raw}{n:Nat}(hn:n<=10){s s':B8}(hs:s=aj (qC (λ i=>j7 (R i)) n))(im:s'=aj (qC (λ i=>j7 (R i)) n++zip)){xb DT:Nat}{w w':W8}{lo DH:Nat}{rs qq:List PR}(hP:bp s xb w lo rs)(og:bp s' DT w' DH qq){S S':B8->Nat}{m m':Nat}{K':List (Th × Nat)}(hM:Mod s rs 50 S m (some K))(ev:Mod s' qq 50 S' m' (some K')):yep R n (zkn K 4) (zj7 K' (zve zzB 88 89)) (zj7 K' (zve yyB 65 66)) (zj7 K' (zve xxB 65 66)) (zj7 K' ycn):=by
 obtain⟨Ls,Cc⟩:∃ Ls,Ls=KL.fact 0 1::(List.range n).map (λ i=>j7 (R i)):=⟨_,rfl⟩;have cS:∀ L∈Ls,L.Ok:=by rw[Cc];exact zp6 R n
 have bG:Ls≠[]:=by rw[Cc];simp
 have hlen:Ls.length<=14:=by rw[Cc];simp;omega
 rw[zja,<-Cc] at hs im;have h2:zz8 (zH s).2:=by rw[hs];exact NG bG (by omega) cS
 have mH:NmK s:=by rw[hs];exact (z6k bG (by omega) cS).2
 have ez:rs.map (·.R)=Ls.map KL.rule:=by rw[hP.rules,hs];exact (zpk bG (by omega) cS).2
 have fc:qq.map (·.R)=Ls.map KL.rule++ze8:=by rw[og.rules,im];exact (zky bG hlen cS).2
 have hC:bJ Ls qq (yap K'):=⟨cS,fc,og.cg,ev.L8 og,λ t ht=>by
  obtain⟨p,hp,rfl⟩:=List.mem_map.1 ht;have:=(ev.ti og.dh p hp).num;rw[im] at this
  exact zqx bG hlen cS this⟩
 have ln:=hM.L8 hP;have hold:=hC.old ez hP.cg ln;have uY:∀ p∈K',tQ p.1:=λ p hp=>(ev.ti og.dh p hp).w
 have ak:∀ p x y,p<4->x<4->y<4->(yJ (tT p x y) (zkn K 4)=true↔yap K (fl p,[a8 x,a8 y])):=λ p x y hp hx hy=>by
  rw[<-yee hy,z5l h2 hP.dh hM (by omega)];unfold inX;rw[show 16*p+(4*x+y)=16*p+4*x+y by omega,(ydd hp hx hy).2,xB];exact Iff.rfl
 have cL:∀ p x y,p<4->x<4->y<4->(yJ (tT p x y) (zkn K 4)=true↔yap K' (fl p,[a8 x,a8 y])):=λ p x y hp hx hy=>(ak p x y hp hx hy).trans (hold _ ⟨p,hp,rfl⟩).symm
 refine⟨λ x y hx hy=>?_,λ x y hx hy=>?_,λ x y hx hy=>?_,λ x hx=>?_,λ i hi=>?_⟩
 ·rw[Bool.eq_iff_iff,<-yek,zhc uY (yeg yb0 x y) (yal (by decide) _ _ _),hC.zz,cL 3 y x (by decide) hy hx]
 ·rw[Bool.eq_iff_iff,<-yei,zhc uY (yeg yby x y) (yal (by decide) _ _ _),hC.xx,Bool.and_eq_true,cL 0 x y (by decide) hx hy,Bool.not_eq_true',<-Bool.not_eq_true,cL 3 x y (by decide) hx hy]
 ·rw[Bool.eq_iff_iff,<-yej,zhc uY (yeg ybz x y) (yal (by decide) _ _ _),hC.yy,List.any_eq_true]
  constructor
  ·rintro⟨b,h1,h3⟩;have aT:=(hold _ ⟨1,by decide,rfl⟩).1 h1;obtain⟨p,hp,e⟩:=List.mem_map.1 (show (fl 1,[a8 x,b])∈K.map (·.1) from aT);obtain⟨k,hk,rfl⟩:=(hM.nm hP mH p hp).2 b (by rw[e];exact List.mem_cons_of_mem _ List.mem_cons_self);refine⟨k,List.mem_range.2 hk,?_⟩;rw[Bool.and_eq_true,cL 1 x k (by decide) hx hk,cL 2 k y (by decide) hk hy];exact⟨h1,h3⟩
  ·rintro⟨k,hk,h⟩;have hk:=List.mem_range.1 hk;rw[Bool.and_eq_true,cL 1 x k (by decide) hx hk,cL 2 k y (by decide) hk hy] at h;exact⟨a8 k,h.1,h.2⟩
 ·rw[Bool.eq_iff_iff,<-yeh,zhc uY (ye0 ybx x) (yd5 _),hC.ww,cL 0 x x (by decide) hx hx]
 ·have e:zm0 0 i=tT 0 (i/4) (i%4):=rfl;rw[Bool.eq_iff_iff,e,ak 0 (i/4) (i%4) (by decide) (by omega) (by omega),zcw,zw3,z04 cS ez hP.cg ln,<-Cc];have NW:∀ a,a<4->∀ b,b<4->(ae a=ae b↔a=b):=by decide
  constructor
  ·rintro⟨a,b,h1,h3,h4⟩;refine⟨a,b,h1,?_⟩;have e1:ae (i/4)=ae a:=(by have:=congrArg (λ s:B8=>s.data) h3;simpa[a8,yA] using this);have e2:ae (i%4)=ae b:=(by have:=congrArg (λ s:B8=>s.data) h4;simpa[a8,yA] using this);unfold tT gP;rw[e1,e2];rfl
  ·rintro⟨a,b,h1,h3⟩;have h3:=congrArg yF h3;have h3:[pdU 0,40,ae (i/4),44,ae (i%4),41]=[101,40,ae a,44,ae b,41]:=h3;simp only[List.cons.injEq,true_and,and_true] at h3;exact⟨a,b,h1,by unfold a8;rw[h3.2.1],by unfold a8;rw[h3.2.2]⟩
end
end Go.Proofs.YtldkpahaocjdpaaGreat
