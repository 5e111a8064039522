/-
  Plain: rules that are written token by token are read again.
-/
import Derived.Test.YtldkpahaocjdpaaGreatR29
set_option maxHeartbeats 16000000
set_option maxRecDepth 1000000
namespace Go.Proofs.YtldkpahaocjdpaaGreat
section
abbrev TkL:=List (Int × List UInt8)
inductive cM (s:B8):Nat->TkL->Nat->Prop
 | nil (p:Nat):cM s p [] p
 | cons {p q r:Nat} {k:Int} {w:List UInt8} {l:TkL}:TokIs s p k w q->cM s q l r->cM s p ((k,w)::l) r
theorem cM.split {s:B8}{b:TkL}{r:Nat}:∀ {a:TkL} {p:Nat},cM s p (a++b) r->∃ q,cM s p a q/\cM s q b r
 | [],p,h=>⟨p,.nil p,h⟩
 | x::a,p,h=>by
  cases h with
  | cons h1 h2=>
   obtain⟨q,h3,h4⟩:=cM.split h2;exact⟨q,.cons h1 h3,h4⟩
variable {w:List UInt8} {k:Int} {p r:Nat} {s:B8}
theorem cM.head {l:TkL}(h:cM s p ((k,w)::l) r):∃ q,TokIs s p k w q/\cM s q l r:=by
 cases h with
 | cons h1 h2=>exact⟨_,h1,h2⟩
theorem cM.last (h:cM s p [(k,w)] r):TokIs s p k w r:=by
 obtain⟨q,h1,h2⟩:=h.head
 cases h2
 exact h1
theorem bytes_mk (n:B8):(⟨(bytesL n).toArray⟩:B8)=n:=by unfold bytesL;rw[Array.toArray_toList]
def tmTk (t:Bool × B8):Int × List UInt8:=(if t.1 then 3 else 2,bytesL t.2)
def termsTk:List (Bool × B8)->TkL
 | []=>[]
 | [t]=>[tmTk t,(6,[41])]
 | t::u::r=>tmTk t::(7,[44])::termsTk (u::r)
def atomTk (pd:B8)(ts:List (Bool × B8)):TkL:=match ts with
 | []=>[(2,bytesL pd)]
 | t::r=>(2,bytesL pd)::(5,[40])::termsTk (t::r)
def litTk (l:PLit):TkL:=(if l.neg then [(4,[110,111,116])] else [])++atomTk l.pd l.ts
def bodyTk:List PLit->TkL
 | []=>[]
 | [l]=>litTk l++[(8,[46])]
 | l::m::r=>litTk l++(7,[44])::bodyTk (m::r)
def ruleTk (R:PRule):TkL:=atomTk R.pd R.ts++match R.body with
 | []=>[(8,[46])]
 | l::r=>(9,[58,45])::bodyTk (l::r)
variable {q:Nat}
theorem term_tok {t:Bool × B8}(h:TokIs s p (tmTk t).1 (tmTk t).2 q):((ae s p).1=2\/(ae s p).1=3)/\(decide ((ae s p).1=3),rword s p)=t:=by
 obtain⟨b,n⟩:=t;have hk:=h.kind;have hw:=h.word;unfold tmTk at hk hw;simp only at hk hw;rw[bytes_mk] at hw
 cases b with
 | true=>simp only[if_true] at hk;exact⟨.inr hk,by rw[hk,hw];rfl⟩
 | false=>simp only[Bool.false_eq_true,if_false] at hk;exact⟨.inl hk,by rw[hk,hw];rfl⟩
theorem pterms_toks {s:B8}:∀ (ts:List (Bool × B8)) (f p q:Nat) (l:List (Bool × B8)) (pl:Nat->Nat),ts≠[]->ts.length<=f->cM s p (termsTk ts) q->∃ DL,ptermsS s f p l pl=(true,q,l++ts,DL)
 | [],_,_,_,_,_,h,_,_=>absurd rfl h
 | [t],f,p,q,l,pl,_,hf,h=>by
  obtain⟨f,rfl⟩:∃ g,f=g+1:=⟨f-1,by simp at hf;omega⟩;obtain⟨p1,h1,h2⟩:=cM.head (l:=[(6,[41])]) (k:=(tmTk t).1) (w:=(tmTk t).2) h;have h3:=h2.last;obtain⟨e1,e2⟩:=term_tok h1;have e3:(ae s p1).1=6:=h3.kind;refine⟨dL pl l.length (ae s p).2.1,?_⟩;rw[ptermsS,if_pos e1,h1.stop,e2,e3,if_neg (by decide)];unfold rtake;rw[e3,h3.stop];rfl
 | t::u::r,f,p,q,l,pl,_,hf,h=>by
  obtain⟨f,rfl⟩:∃ g,f=g+1:=⟨f-1,by simp at hf;omega⟩;obtain⟨p1,h1,h2⟩:=cM.head (l:=(7,[44])::termsTk (u::r)) (k:=(tmTk t).1) (w:=(tmTk t).2) h;obtain⟨p2,h3,h4⟩:=h2.head;obtain⟨e1,e2⟩:=term_tok h1;obtain⟨DL,ih⟩:=pterms_toks (u::r) f p2 q (l++[t]) (dL pl l.length (ae s p).2.1) (by simp) (by simp at hf ⊢;omega) h4;refine⟨DL,?_⟩;rw[ptermsS,if_pos e1,h1.stop,e2,h3.kind,if_pos rfl,h3.stop,ih,List.append_assoc];rfl
theorem patom_toks {pd:B8}{ts:List (Bool × B8)}(h4:ts.length<=4)(h:cM s p (atomTk pd ts) q)(hq:ts=[]->(ae s q).1≠5):(ae s p).1=2/\∃ pl,patomS s p=.yes q pd ts pl:=by
 cases ts with
 | nil=>
  have h1:TokIs s p 2 (bytesL pd) q:=cM.last h;refine⟨h1.kind,λ _=>0,?_⟩;unfold patomS;rw[if_pos h1.kind,h1.stop,if_neg (hq rfl),h1.word,bytes_mk]
 | cons t r=>
  obtain⟨p1,h1,h2⟩:=cM.head (k:=2) (w:=bytesL pd) (l:=(5,[40])::termsTk (t::r)) h;obtain⟨p2,h3,h5⟩:=h2.head;obtain⟨pl,h6⟩:=pterms_toks (t::r) 4 p2 q [] (λ _=>0) (by simp) h4 h5;refine⟨h1.kind,pl,?_⟩;unfold patomS;rw[if_pos h1.kind,h1.stop,h3.kind,if_pos rfl,h3.stop,h6,if_pos rfl,h1.word,bytes_mk];rfl
def menKey (M:PMen):Nat × Bool × B8 × List (Bool × B8):=(M.num,M.neg,M.pd,M.ts)
def litKey (n:Nat)(l:PLit):Nat × Bool × B8 × List (Bool × B8):=(n,l.neg,l.pd,l.ts)
def menKeys:Nat->List PRule->List (Nat × Bool × B8 × List (Bool × B8))
 | _,[]=>[]
 | n,R::r=>(n,false,R.pd,R.ts)::(R.body.map (litKey n)++menKeys (n+1) r)
theorem plit_toks {l:PLit}(h4:l.ts.length<=4)(h:cM s p (litTk l) q)(hq:l.ts=[]->(ae s q).1≠5):∃ pl,patomS s (rtake s p 4)=.yes q l.pd l.ts pl/\cJ s p l.pd l.ts=l/\∀ num,menKey (cK s num p l.pd l.ts pl)=litKey num l:=by
 obtain⟨neg,pd,ts⟩:=l;unfold litTk at h
 cases neg with
 | false=>
  have h':cM s p (atomTk pd ts) q:=h;obtain⟨hk,pl,he⟩:=patom_toks h4 h' hq;have hb:((ae s p).1==4)=false:=by rw[hk];rfl
  refine⟨pl,?_,?_,λ num=>?_⟩
  ·unfold rtake;rw[hb];exact he
  ·unfold cJ;rw[hb]
  ·unfold menKey cK litKey;simp only[hb]
 | true=>
  have h':cM s p ((4,[110,111,116])::atomTk pd ts) q:=h;obtain⟨p1,h1,h2⟩:=h'.head;obtain⟨hk,pl,he⟩:=patom_toks h4 h2 hq;have hb:((ae s p).1==4)=true:=by rw[h1.kind];rfl
  refine⟨pl,?_,?_,λ num=>?_⟩
  ·unfold rtake;rw[hb,h1.stop];exact he
  ·unfold cJ;rw[hb]
  ·unfold menKey cK litKey;simp only[hb]
theorem pbody_toks {s:B8}{num:Nat}:∀ (b:List PLit) (f p q:Nat) (l:List PLit) (ms:List PMen),b≠[]->b.length<=f->(∀ x∈b,x.ts.length<=4)->cM s p (bodyTk b) q->∃ ms',pbodyS s num f p l ms=(true,q,l++b,ms++ms')/\ms'.map menKey=b.map (litKey num)
 | [],_,_,_,_,_,h,_,_,_=>absurd rfl h
 | [x],f,p,q,l,ms,_,hf,h4,h=>by
  obtain⟨f,rfl⟩:∃ g,f=g+1:=⟨f-1,by simp at hf;omega⟩;obtain⟨p1,h1,h2⟩:=cM.split (a:=litTk x) (b:=[(8,[46])]) h;have h3:=h2.last;have hk:(ae s p1).1=8:=h3.kind;obtain⟨pl,e1,e2,e3⟩:=plit_toks (h4 x List.mem_cons_self) h1 (λ _=>by rw[hk];decide);refine⟨[cK s num p x.pd x.ts pl],?_,by rw[List.map_cons,e3];rfl⟩;rw[pbodyS,e1];simp only;rw[hk,if_neg (by decide),e2];unfold rtake;rw[hk,h3.stop];rfl
 | x::y::r,f,p,q,l,ms,_,hf,h4,h=>by
  obtain⟨f,rfl⟩:∃ g,f=g+1:=⟨f-1,by simp at hf;omega⟩;obtain⟨p1,h1,h2⟩:=cM.split (a:=litTk x) (b:=(7,[44])::bodyTk (y::r)) h;obtain⟨p2,h3,h5⟩:=h2.head;have hk:(ae s p1).1=7:=h3.kind;obtain⟨pl,e1,e2,e3⟩:=plit_toks (h4 x List.mem_cons_self) h1 (λ _=>by rw[hk];decide);obtain⟨ms',Ku,Kv⟩:=pbody_toks (num:=num) (y::r) f p2 q (l++[x]) (ms++[cK s num p x.pd x.ts pl]) (by simp) (by simp at hf ⊢;omega) (λ z hz=>h4 z (List.mem_cons_of_mem _ hz)) h5;refine⟨cK s num p x.pd x.ts pl::ms',?_,by rw[List.map_cons,e3,Kv];rfl⟩;rw[pbodyS,e1];simp only;rw[hk,if_pos rfl,e2,h3.stop,Ku,List.append_assoc,List.append_assoc];rfl
structure RuleF (R:PRule):Prop where
 ts:R.ts.length<=4
 body:R.body.length<=3
 DJ:∀ x∈R.body,x.ts.length<=4
theorem prule_toks {num:Nat}{R:PRule}(hR:RuleF R)(ms:List PMen)(h:cM s p (ruleTk R) q):(ae s p).1=2/\∃ ms',pruleS s num p ms=(true,q,R,ms++ms')/\ms'.map menKey=(num,false,R.pd,R.ts)::R.body.map (litKey num):=by
 obtain⟨pd,ts,body⟩:=R;unfold ruleTk at h;obtain⟨p1,h1,h2⟩:=cM.split h
 cases body with
 | nil=>
  have h3:TokIs s p1 8 [46] q:=cM.last h2;obtain⟨hk,pl,he⟩:=patom_toks hR.ts h1 (λ _=>by rw[h3.kind];decide);refine⟨hk,[dc s num p pd ts pl],?_,rfl⟩;unfold pruleS;rw[he];simp only;rw[h3.kind,if_pos rfl,h3.stop]
 | cons x r=>
  obtain⟨p2,h3,h5⟩:=cM.head (k:=9) (w:=[58,45]) (l:=bodyTk (x::r)) h2;obtain⟨hk,pl,he⟩:=patom_toks hR.ts h1 (λ _=>by rw[h3.kind];decide);obtain⟨ms',e1,e2⟩:=pbody_toks (num:=num) (x::r) 3 p2 q [] (ms++[dc s num p pd ts pl]) (by simp) hR.body hR.DJ h5;refine⟨hk,dc s num p pd ts pl::ms',?_,by rw[List.map_cons,e2];rfl⟩;unfold pruleS;rw[he];simp only;rw[h3.kind,if_neg (by decide),if_pos rfl,h3.stop,e1,List.append_assoc];rfl
theorem prules_toks {s:B8}{q:Nat}(hq:(ae s q).1=0):∀ (rules:List PRule) (rs:List PRule) (ms:List PMen) (p f:Nat),(∀ R∈rules,RuleF R)->rs.length+rules.length<=30->rules.length<f->cM s p (rules.flatMap ruleTk) q->∃ ms',prulesS s f p rs ms=(true,q,rs++rules,ms++ms')/\ms'.map menKey=menKeys rs.length rules
 | [],rs,ms,p,f,_,_,hf,h=>by
  obtain⟨f,rfl⟩:∃ g,f=g+1:=⟨f-1,by simp at hf;omega⟩
  cases h
  refine⟨[],?_,rfl⟩;rw[prulesS,if_pos hq,List.append_nil,List.append_nil]
 | R::r,rs,ms,p,f,hR,hl,hf,h=>by
  obtain⟨f,rfl⟩:∃ g,f=g+1:=⟨f-1,by simp at hf;omega⟩;rw[List.flatMap_cons] at h;obtain⟨p1,h1,h2⟩:=cM.split h;obtain⟨hk,Gz,e1,e2⟩:=prule_toks (num:=rs.length) (hR R List.mem_cons_self) ms h1;simp only[List.length_cons] at hl hf;obtain⟨KE,e3,e4⟩:=prules_toks hq r (rs++[R]) (ms++Gz) p1 f (λ x hx=>hR x (List.mem_cons_of_mem _ hx)) (by rw[List.length_append,List.length_singleton];omega) (by omega) h2;refine⟨Gz++KE,?_,?_⟩
  ·rw[prulesS,if_neg (by rw[hk];decide),if_neg (by omega),e1,if_pos rfl];simp only;rw[e3,List.append_assoc,List.append_assoc];rfl
  ·rw[List.map_append,e2,e4,List.length_append,List.length_singleton];rfl
theorem pparsed_toks {rules:List PRule}(hq:(ae s q).1=0)(hR:∀ R∈rules,RuleF R)(hl:rules.length<=30)(h:cM s 0 (rules.flatMap ruleTk) q):(pparsed s).1=true/\(pparsed s).2.2.1=rules/\(pparsed s).2.2.2.map menKey=menKeys 0 rules:=by
 obtain⟨ms,e1,e2⟩:=prules_toks hq rules [] [] 0 31 hR (by simpa using hl) (by omega) h;unfold pparsed;rw[e1];exact⟨rfl,rfl,e2⟩
end
section
structure RuleOkK (ar lv:B8->Nat)(R:PRule):Prop where
 f:RuleF R
 hd:R.ts.length=ar R.pd
 ls:∀ l∈R.body,l.ts.length=ar l.pd
 safe:∀ t∈R.ts,t.1=true->∃ l∈R.body,l.neg=false/\t∈l.ts
 mQ:∀ l∈R.body,l.neg=true->∀ t∈l.ts,t.1=true->∃ m∈R.body,m.neg=false/\t∈m.ts
 pos:∀ l∈R.body,lv l.pd<=lv R.pd
 neg:∀ l∈R.body,l.neg=true->lv l.pd<lv R.pd
theorem mem_menKeys {x:Nat × Bool × B8 × List (Bool × B8)}:∀ {rules:List PRule} {n:Nat},x∈menKeys n rules->∃ i R,rules[i]?=some R/\(x=(n+i,false,R.pd,R.ts)\/∃ l∈R.body,x=litKey (n+i) l)
 | [],_,h=>by cases h
 | R::r,n,h=>by
  rw[menKeys] at h;rcases List.mem_cons.1 h with h | h
  ·exact⟨0,R,rfl,.inl h⟩
  ·rcases List.mem_append.1 h with h | h
   ·obtain⟨l,hl,e⟩:=List.mem_map.1 h;exact⟨0,R,rfl,.inr ⟨l,hl,e.symm⟩⟩
   ·obtain⟨i,Q,h1,h2⟩:=mem_menKeys h;refine⟨i+1,Q,by rw[List.getElem?_cons_succ];exact h1,?_⟩;rw[show n+(i+1)=n+1+i by omega];exact h2
theorem parity_ok {ar:B8->Nat}:∀ (ms:List PMen) (ps:P9),(∀ M∈ms,M.ts.length=ar M.pd)->(∀ k n,numOf ps k=some n->n=ar k)->parity ms ps=-1
 | [],_,_,_=>rfl
 | M::r,ps,h,hp=>by
  have hM:=h M List.mem_cons_self;have hb:meetB ps M.pd M.ts.length=true:=by
   rw[meetB_num]
   cases hn:numOf ps M.pd with
   | none=>rfl
   | some m=>simp only[beq_iff_eq];rw[hp _ _ hn,hM]
  rw[parity,if_pos hb];refine parity_ok r _ (λ N hN=>h N (List.mem_cons_of_mem _ hN)) λ k n hk=>?_
  unfold meetP at hk
  split at hk
  ·rw[num_snoc] at hk
   cases hn:numOf ps k with
   | some m=>rw[hn] at hk;rw[<-Option.some.inj hk];exact hp _ _ hn
   | none=>
    rw[hn] at hk;simp only at hk
    split at hk
    ·rename_i he;rw[<-Option.some.inj hk,hM,aW.1 he]
    ·cases hk
  ·exact hp _ _ hk
theorem loose_none {ls:List PLit}:∀ (ts:List (Bool × B8)) (k:Nat),(∀ t∈ts,t.1=true->bindsV t.2 ls=true)->looseIx ls ts k=none
 | [],_,_=>rfl
 | t::r,k,h=>by
  rw[looseIx,if_neg]
  ·exact loose_none r (k+1) (λ u hu=>h u (List.mem_cons_of_mem _ hu))
  ·intro hx;simp only[Bool.and_eq_true,Bool.not_eq_true'] at hx;rw[h t List.mem_cons_self hx.1] at hx
   cases hx.2
theorem binds_of {ls:List PLit}{t:Bool × B8}(ht:t.1=true){l:PLit}(hl:l∈ls)(hn:l.neg=false)(hm:t∈l.ts):bindsV t.2 ls=true:=by
 unfold bindsV;rw[List.any_eq_true];refine⟨l,List.mem_filter.2 ⟨hl,by rw[hn];rfl⟩,?_⟩;unfold hasV;rw[List.any_eq_true];exact⟨t,hm,by simp[ht]⟩
variable {lv:B8->Nat} {rules:List PRule}
theorem reach_lv (h:∀ R∈rules,∀ l∈R.body,lv l.pd<=lv R.pd){a b:B8}(hr:Reach (edgesP rules) a b):lv b<=lv a:=by
 have one:∀ {a b},(a,b)∈edgesP rules->lv b<=lv a:=λ he=>by
  obtain⟨R,hR,he⟩:=List.mem_flatMap.1 he;obtain⟨l,hl,e⟩:=List.mem_map.1 he;injection e with e1 e2
  rw[<-e1,<-e2];exact h R hR l hl
 induction hr with
 | one he=>exact one he
 | next _ he ih=>exact Nat.le_trans (one he) ih
variable {ar:B8->Nat}
theorem fault_none {ms:List PMen}(hR:∀ R∈rules,RuleOkK ar lv R)(hk:ms.map menKey=menKeys 0 rules):faultP rules ms=(0,0):=by
 have key:∀ M∈ms,∃ R,rules[M.num]?=some R/\R∈rules/\((M.neg=false/\M.pd=R.pd/\M.ts=R.ts)\/∃ l∈R.body,M.neg=l.neg/\M.pd=l.pd/\M.ts=l.ts):=λ M hM=>by
  have:menKey M∈menKeys 0 rules:=by rw[<-hk];exact List.mem_map_of_mem hM
  obtain⟨i,R,h1,h2⟩:=mem_menKeys this;unfold menKey litKey at h2;simp only[Prod.mk.injEq,Nat.zero_add] at h2;have hm:R∈rules:=List.mem_of_getElem? h1;rcases h2 with⟨e1,e2,e3,e4⟩ | ⟨l,hl,e1,e2,e3,e4⟩
  ·exact⟨R,by rw[e1];exact h1,hm,.inl ⟨e2,e3,e4⟩⟩
  ·exact⟨R,by rw[e1];exact h1,hm,.inr ⟨l,hl,e2,e3,e4⟩⟩
 have p1:parity ms []=-1:=parity_ok (ar:=ar) ms [] (λ M hM=>by
  obtain⟨R,_,hm,⟨_,e1,e2⟩ | ⟨l,hl,_,e1,e2⟩⟩:=key M hM
  ·rw[e1,e2];exact (hR R hm).hd
  ·rw[e1,e2];exact (hR R hm).ls l hl) (λ k n h=>by cases h)
 have p2:∀ (l:List PMen),(∀ M∈l,M∈ms)->unboundI rules l=-1:=by
  intro l
  induction l with
  | nil=>intro _;rfl
  | cons M r ih=>
   intro hl;obtain⟨R,h1,hm,h2⟩:=key M (hl M List.mem_cons_self);have hb:bodyAt rules M.num=R.body:=(by unfold bodyAt;rw[h1]);have hn:looseIx (bodyAt rules M.num) M.ts 0=none:=by
    rw[hb];refine loose_none M.ts 0 λ t ht hv=>?_
    rcases h2 with⟨_,_,e⟩ | ⟨x,hx,e0,_,e⟩
    ·rw[e] at ht;obtain⟨x,hx,h3,h4⟩:=(hR R hm).safe t ht hv;exact binds_of hv hx h3 h4
    ·rw[e] at ht
     cases BO:x.neg with
     | false=>exact binds_of hv hx BO ht
     | true=>
      obtain⟨y,hy,h3,h4⟩:=(hR R hm).mQ x hx BO t ht hv;exact binds_of hv hy h3 h4
   rw[unboundI,hn];exact ih (λ N hN=>hl N (List.mem_cons_of_mem _ hN))
 have p3:∀ (l:List PMen),(∀ M∈l,M∈ms)->cycleP rules l=-1:=by
  intro l
  induction l with
  | nil=>intro _;rfl
  | cons M r ih=>
   intro hl;obtain⟨R,h1,hm,h2⟩:=key M (hl M List.mem_cons_self);have hh:headAt rules M.num=R.pd:=(by unfold headAt;rw[h1]);have hc:¬ cycM rules M=true:=λ hx=>by
    unfold cycM at hx;simp only[Bool.and_eq_true,Bool.or_eq_true,hh] at hx;obtain⟨eH,hx⟩:=hx;rcases h2 with⟨e,_,_⟩ | ⟨x,uZ,e0,e1,_⟩
    ·rw[e] at eH;cases eH
    ·rw[e0] at eH;have bP:=(hR R hm).neg x uZ eH;rw[e1] at hx;rcases hx with hx | hx
     ·rw[aW.1 hx] at bP;omega
     ·have J2:Reach (edgesP rules) x.pd R.pd:=by
       classical
       unfold hangsP at hx;simpa using hx
      have:=reach_lv (lv:=lv) (λ Q hQ l hl=>(hR Q hQ).pos l hl) J2;omega
   rw[cycleP,if_neg hc];exact ih (λ N hN=>hl N (List.mem_cons_of_mem _ hN))
 unfold faultP;rw[p1,p2 ms (λ _ h=>h),p3 ms (λ _ h=>h)];rfl
theorem text_ok {s:B8}{q:Nat}(hs:s.size<=800)(hq:(ae s q).1=0)(hR:∀ R∈rules,RuleOkK ar lv R)(hl:rules.length<=30)(h:cM s 0 (rules.flatMap ruleTk) q):refLoad s=(true,0,0)/\(pparsed s).2.2.1=rules:=by
 obtain⟨h1,h2,h3⟩:=pparsed_toks hq (λ R hr=>(hR R hr).f) hl h;refine⟨?_,h2⟩;rw[<-load_eq];unfold pload;rw[if_neg (by omega),h1,if_neg (by decide),h2,fault_none hR h3,if_neg (by decide)]
end
section
abbrev Item:=List UInt8 × Int × List UInt8
def rend (l:List Item):List UInt8:=l.flatMap λ x=>x.1++x.2.2
theorem rend_cons (x:Item)(l:List Item):rend (x::l)=x.1++(x.2.2++rend l):=by unfold rend;rw[List.flatMap_cons,List.append_assoc]
theorem rend_append (a b:List Item):rend (a++b)=rend a++rend b:=by unfold rend;rw[List.flatMap_append]
def Apart2 (k:Int):List Item->Prop
 | []=>k≠2/\k≠3/\k≠4
 | y::_=>y.1≠[]\/(¬ ((k=2\/k=4)/\(y.2.1=2\/y.2.1=4))/\¬ (k=3/\y.2.1=3))
def OkIt:List Item->Prop
 | []=>True
 | x::r=>(∀ c∈x.1,aH c.toNat=true)/\IsTok x.2.1 x.2.2/\Apart2 x.2.1 r/\OkIt r
variable {k:Int}
theorem tok_first {w:List UInt8}(h:IsTok k w):∃ c r,w=c::r/\(aP c.toNat=true->k=2\/k=4)/\(aL c.toNat=true->k=3):=by
 cases h with
 | name bG _ hw _=>
  obtain⟨c,r,rfl⟩:=List.exists_cons_of_ne_nil bG;refine⟨c,r,rfl,λ _=>.inl rfl,λ hh=>?_⟩;have:=hw c List.mem_cons_self;unfold aP at this;unfold aL at hh;simp at this hh;omega
 | var bG _ hw=>
  obtain⟨c,r,rfl⟩:=List.exists_cons_of_ne_nil bG;refine⟨c,r,rfl,λ hh=>?_,λ _=>rfl⟩;have:=hw c List.mem_cons_self;unfold aL at this;unfold aP at hh;simp at this hh;omega
 | rA=>exact⟨_,_,rfl,λ _=>.inr rfl,λ h=>absurd h (by decide)⟩
 | open_=>exact⟨_,_,rfl,λ h=>absurd h (by decide),λ h=>absurd h (by decide)⟩
 | shut=>exact⟨_,_,rfl,λ h=>absurd h (by decide),λ h=>absurd h (by decide)⟩
 | comma=>exact⟨_,_,rfl,λ h=>absurd h (by decide),λ h=>absurd h (by decide)⟩
 | dot=>exact⟨_,_,rfl,λ h=>absurd h (by decide),λ h=>absurd h (by decide)⟩
 | mR=>exact⟨_,_,rfl,λ h=>absurd h (by decide),λ h=>absurd h (by decide)⟩
theorem ends_of {l:List Item}{rest:List UInt8}(ha:Apart2 k l)(ho:OkIt l):Ends k (rend l++rest):=by
 intro c r' e
 cases l with
 | nil=>exact⟨λ h=>by rcases h with h | h;exact absurd h ha.1;exact absurd h ha.2.2,λ h=>absurd h ha.2.1⟩
 | cons y l=>
  obtain⟨hb,ht,_,_⟩:=ho;rw[rend_cons,List.append_assoc] at e;rcases ha with bG | ⟨h1,h2⟩
  ·obtain⟨d,b,hd⟩:=List.exists_cons_of_ne_nil bG;rw[hd] at e hb;injection e with e1
   have:=hb d List.mem_cons_self;rw[e1] at this;unfold aH at this;simp at this
   constructor
   ·intro _;unfold aP;simp;omega
   ·intro _;unfold aL;simp;omega
  ·by_cases hyb:y.1=[]
   ·rw[hyb,List.nil_append] at e;obtain⟨d,w,hw,hl,hh⟩:=tok_first ht;rw[hw] at e;injection e with e1
    rw[<-e1]
    constructor
    ·intro hk
     cases hx:aP d.toNat with
     | false=>rfl
     | true=>exact absurd ⟨hk,hl hx⟩ h1
    ·intro hk
     cases hx:aL d.toNat with
     | false=>rfl
     | true=>exact absurd ⟨hk,hh hx⟩ h2
   ·obtain⟨d,b,hd⟩:=List.exists_cons_of_ne_nil hyb;rw[hd] at e hb;injection e with e1
    have:=hb d List.mem_cons_self;rw[e1] at this;unfold aH at this;simp at this
    constructor
    ·intro _;unfold aP;simp;omega
    ·intro _;unfold aL;simp;omega
theorem toks_rend {s:B8}{rest:List UInt8}:∀ (l:List Item) (p:Nat),OkIt l->(bytesL s).drop p=rend l++rest->∃ q,cM s p (l.map (·.2)) q/\(bytesL s).drop q=rest
 | [],p,_,h=>⟨p,.nil p,h⟩
 | x::l,p,ho,h=>by
  obtain⟨hb,ht,ha,FT⟩:=ho;rw[rend_cons,List.append_assoc,List.append_assoc] at h;obtain⟨h1,h2⟩:=tok_is h hb ht (ends_of ha FT);obtain⟨q,h3,h4⟩:=toks_rend l _ FT h2;exact⟨q,.cons h1 h3,h4⟩
def termsIt:List (Bool × B8)->List Item
 | []=>[]
 | [t]=>[([],tmTk t),([],6,[41])]
 | t::u::r=>([],tmTk t)::([],7,[44])::termsIt (u::r)
def atomIt (b:List UInt8)(pd:B8)(ts:List (Bool × B8)):List Item:=match ts with
 | []=>[(b,2,bytesL pd)]
 | t::r=>(b,2,bytesL pd)::([],5,[40])::termsIt (t::r)
def litIt (b:List UInt8)(l:PLit):List Item:=if l.neg then (b,4,[110,111,116])::atomIt [32] l.pd l.ts else atomIt b l.pd l.ts
def bodyIt:List PLit->List Item
 | []=>[]
 | [l]=>litIt [32] l++[([],8,[46])]
 | l::m::r=>litIt [32] l++([],7,[44])::bodyIt (m::r)
def ruleIt (b:List UInt8)(R:PRule):List Item:=atomIt b R.pd R.ts++match R.body with
 | []=>[([],8,[46])]
 | l::r=>([32],9,[58,45])::bodyIt (l::r)
def rulesIt (sep b:List UInt8):List PRule->List Item
 | []=>[]
 | R::r=>ruleIt b R++rulesIt sep sep r
theorem termsIt_tk:∀ ts,(termsIt ts).map (·.2)=termsTk ts
 | []=>rfl
 | [_]=>rfl
 | t::u::r=>by rw[termsIt,termsTk,List.map_cons,List.map_cons,termsIt_tk (u::r)]
theorem atomIt_tk (b:List UInt8)(pd:B8)(ts:List (Bool × B8)):(atomIt b pd ts).map (·.2)=atomTk pd ts:=by
 cases ts with
 | nil=>rfl
 | cons t r=>unfold atomIt atomTk;simp only[List.map_cons,termsIt_tk]
theorem litIt_tk (b:List UInt8)(l:PLit):(litIt b l).map (·.2)=litTk l:=by
 unfold litIt litTk
 cases l.neg with
 | true=>simp only[if_true,List.map_cons,atomIt_tk];rfl
 | false=>simp only[Bool.false_eq_true,if_false,atomIt_tk];rfl
theorem bodyIt_tk:∀ ls,(bodyIt ls).map (·.2)=bodyTk ls
 | []=>rfl
 | [l]=>by rw[bodyIt,bodyTk,List.map_append,litIt_tk];rfl
 | l::m::r=>by rw[bodyIt,bodyTk,List.map_append,litIt_tk,List.map_cons,bodyIt_tk (m::r)]
theorem ruleIt_tk (b:List UInt8)(R:PRule):(ruleIt b R).map (·.2)=ruleTk R:=by
 unfold ruleIt ruleTk;rw[List.map_append,atomIt_tk]
 congr 1
 cases R.body with
 | nil=>rfl
 | cons l r=>simp only[List.map_cons,bodyIt_tk]
theorem rulesIt_tk (sep:List UInt8):∀ (rules:List PRule) (b:List UInt8),(rulesIt sep b rules).map (·.2)=rules.flatMap ruleTk
 | [],_=>rfl
 | R::r,b=>by rw[rulesIt,List.map_append,ruleIt_tk,rulesIt_tk sep r sep,List.flatMap_cons]
structure WordsOk (R:PRule):Prop where
 pd:IsTok 2 (bytesL R.pd)
 ts:∀ t∈R.ts,IsTok (tmTk t).1 (tmTk t).2
 vW:∀ l∈R.body,IsTok 2 (bytesL l.pd)
 DJ:∀ l∈R.body,∀ t∈l.ts,IsTok (tmTk t).1 (tmTk t).2
theorem okIt_append:∀ (a b:List Item),OkIt a->OkIt b->(a=[]\/∃ a' x,a=a'++[x]/\Apart2 x.2.1 b)->OkIt (a++b)
 | [],b,_,hb,_=>hb
 | [x],b,ha,hb,h=>by
  rcases h with h | ⟨a',y,e,hy⟩
  ·cases h
  ·have km:x=y:=by
    cases a' with
    | nil=>injection e
    | cons z a'=>injection e with _ e;cases a' <;> cases e
   subst km;exact⟨ha.1,ha.2.1,hy,hb⟩
 | x::y::r,b,ha,hb,h=>by
  refine⟨ha.1,ha.2.1,ha.2.2.1,okIt_append (y::r) b ha.2.2.2 hb (.inr ?_)⟩;rcases h with h | ⟨a',z,e,hz⟩
  ·cases h
  ·cases a' with
   | nil=>injection e with _ e;cases e
   | cons u a'=>injection e with _ e;exact⟨a',z,e,hz⟩
theorem termsIt_ok:∀ (ts:List (Bool × B8)),ts≠[]->(∀ t∈ts,IsTok (tmTk t).1 (tmTk t).2)->OkIt (termsIt ts)/\∃ a,termsIt ts=a++[([],6,[41])]
 | [],h,_=>absurd rfl h
 | [t],_,h=>⟨⟨by simp,h t List.mem_cons_self,.inr ⟨by simp,by simp⟩,by simp,.shut,by simp[Apart2],trivial⟩,[([],tmTk t)],rfl⟩
 | t::u::r,_,h=>by
  obtain⟨h1,a,h2⟩:=termsIt_ok (u::r) (by simp) (λ x hx=>h x (List.mem_cons_of_mem _ hx));have ha:Apart2 7 (termsIt (u::r)):=by
   cases r with
   | nil=>exact .inr ⟨by simp,by simp⟩
   | cons v r=>exact .inr ⟨by simp,by simp⟩
  refine⟨⟨by simp,h t List.mem_cons_self,.inr ⟨by simp,by simp⟩,by simp,.comma,ha,h1⟩,([],tmTk t)::([],7,[44])::a,?_⟩;rw[termsIt,h2];rfl
theorem blank1 (c:UInt8)(h:c=32\/c=10):aH c.toNat=true:=by rcases h with rfl | rfl <;> decide
variable {r:List Item} {b:List UInt8}
theorem fq (hb:∀ c∈b,aH c.toNat=true){pd:B8}(hp:IsTok 2 (bytesL pd)){ts:List (Bool × B8)}(ht:∀ t∈ts,IsTok (tmTk t).1 (tmTk t).2)(hr:OkIt r)(ez:Apart2 2 r)(fc:Apart2 6 r):OkIt (atomIt b pd ts++r):=by
 cases ts with
 | nil=>exact⟨hb,hp,ez,hr⟩
 | cons t q=>
  obtain⟨h1,a,h2⟩:=termsIt_ok (t::q) (by simp) ht;have ha:Apart2 5 (termsIt (t::q)++r):=by
   cases q with
   | nil=>exact .inr ⟨by simp,by simp⟩
   | cons v q=>exact .inr ⟨by simp,by simp⟩
  exact⟨hb,hp,.inr ⟨by simp,by simp⟩,by simp,.open_,ha,okIt_append _ r h1 hr (.inr ⟨a,_,h2,fc⟩)⟩
theorem litIt_ok {l:PLit}(hp:IsTok 2 (bytesL l.pd))(ht:∀ t∈l.ts,IsTok (tmTk t).1 (tmTk t).2)(hr:OkIt r)(ez:Apart2 2 r)(fc:Apart2 6 r):OkIt (litIt [32] l++r)/\∀ k,Apart2 k (litIt [32] l++r):=by
 have hb:∀ c∈[(32:UInt8)],aH c.toNat=true:=λ c hc=>blank1 c (.inl (List.mem_singleton.1 hc))
 unfold litIt
 cases l.neg with
 | true=>
  simp only[if_true];refine⟨⟨hb,.rA,?_,fq hb hp ht hr ez fc⟩,λ k=>.inl (by simp)⟩;unfold atomIt
  split <;> exact .inl (by simp)
 | false=>
  simp only[Bool.false_eq_true,if_false];refine⟨fq hb hp ht hr ez fc,λ k=>?_⟩;unfold atomIt
  split <;> exact .inl (by simp)
theorem bodyIt_ok:∀ (ls:List PLit),ls≠[]->(∀ l∈ls,IsTok 2 (bytesL l.pd))->(∀ l∈ls,∀ t∈l.ts,IsTok (tmTk t).1 (tmTk t).2)->∀ {r:List Item},OkIt r->Apart2 8 r->OkIt (bodyIt ls++r)/\∀ k,Apart2 k (bodyIt ls++r)
 | [],h,_,_,_,_,_=>absurd rfl h
 | [l],_,hp,ht,r,hr,ha=>by
  rw[bodyIt,List.append_assoc];exact litIt_ok (hp l List.mem_cons_self) (ht l List.mem_cons_self) (r:=[([],8,[46])]++r) ⟨by simp,.dot,ha,hr⟩ (.inr ⟨by simp,by simp⟩) (.inr ⟨by simp,by simp⟩)
 | l::m::q,_,hp,ht,r,hr,ha=>by
  obtain⟨h1,h2⟩:=bodyIt_ok (m::q) (by simp) (λ x hx=>hp x (List.mem_cons_of_mem _ hx)) (λ x hx=>ht x (List.mem_cons_of_mem _ hx)) hr ha;rw[bodyIt,List.append_assoc];exact litIt_ok (hp l List.mem_cons_self) (ht l List.mem_cons_self) (r:=([],7,[44])::bodyIt (m::q)++r) ⟨by simp,.comma,h2 7,h1⟩ (.inr ⟨by simp,by simp⟩) (.inr ⟨by simp,by simp⟩)
theorem ruleIt_ok (hb:∀ c∈b,aH c.toNat=true){R:PRule}(hw:WordsOk R)(hr:OkIt r)(ha:Apart2 8 r):OkIt (ruleIt b R++r):=by
 unfold ruleIt;rw[List.append_assoc]
 cases cU:R.body with
 | nil=>exact fq hb hw.pd hw.ts (r:=[([],8,[46])]++r) ⟨by simp,.dot,ha,hr⟩ (.inr ⟨by simp,by simp⟩) (.inr ⟨by simp,by simp⟩)
 | cons l q=>
  obtain⟨h1,h2⟩:=bodyIt_ok (l::q) (by simp) (by rw[<-cU];exact hw.vW) (by rw[<-cU];exact hw.DJ) hr ha;exact fq hb hw.pd hw.ts (r:=([32],9,[58,45])::bodyIt (l::q)++r) ⟨λ c hc=>blank1 c (.inl (List.mem_singleton.1 hc)),.mR,h2 9,h1⟩ (.inl (by simp)) (.inl (by simp))
theorem rulesIt_ok {sep:List UInt8}(hs:∀ c∈sep,aH c.toNat=true)(bG:sep≠[]):∀ (rules:List PRule) (b:List UInt8),(∀ c∈b,aH c.toNat=true)->(∀ R∈rules,WordsOk R)->OkIt (rulesIt sep b rules)
 | [],_,_,_=>trivial
 | R::r,b,hb,hw=>by
  refine ruleIt_ok hb (hw R List.mem_cons_self) (rulesIt_ok hs bG r sep hs (λ x hx=>hw x (List.mem_cons_of_mem _ hx))) ?_
  cases r with
  | nil=>exact⟨by decide,by decide,by decide⟩
  | cons Q r=>
   rw[rulesIt];unfold ruleIt atomIt
   cases Q.ts <;> exact .inl bG
theorem written_ok {s:B8}{sep tail:List UInt8}(hs:∀ c∈sep,aH c.toNat=true)(bG:sep≠[])(fZ:∀ c∈tail,aH c.toNat=true){rules:List PRule}{ar lv:B8->Nat}(hsz:s.size<=800)(hR:∀ R∈rules,RuleOkK ar lv R)(hw:∀ R∈rules,WordsOk R)(hl:rules.length<=30)(h:bytesL s=rend (rulesIt sep [] rules)++tail):refLoad s=(true,0,0)/\(pparsed s).2.2.1=rules:=by
 obtain⟨q,h1,h2⟩:=toks_rend (s:=s) (rest:=tail) (rulesIt sep [] rules) 0 (rulesIt_ok hs bG rules [] (by simp) hw) h;rw[rulesIt_tk] at h1;exact text_ok hsz (tok_end_is h2 fZ) hR hl h1
end
end Go.Proofs.YtldkpahaocjdpaaGreat
