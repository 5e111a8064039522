/-
  Plain: what is printed is a text again, with the same rules.
-/
import Derived.Test.YtldkpahaocjdpaaGreatR50
set_option maxHeartbeats 16000000
set_option maxRecDepth 1000000
namespace Go.Proofs.YtldkpahaocjdpaaGreat
section
variable {s:B8}
theorem isTok_of {p:Int->Bool}{k:Nat}(hk:k<=s.size)(h:k<skip p s k)(h8:skip p s k-k<=8):bytesL (s.extract k (skip p s k))≠[]/\(bytesL (s.extract k (skip p s k))).length<=8/\∀ c∈bytesL (s.extract k (skip p s k)),p c.toNat=true:=by
 have hle:=skip_le p s k hk;have hl:(bytesL (s.extract k (skip p s k))).length=skip p s k-k:=by
  rw[bytesL_len,ByteArray.size_extract];omega
 refine⟨λ e=>?_,by omega,λ c hc=>?_⟩
 ·rw[e] at hl;simp at hl;omega
 ·obtain⟨j,hj,h1,h2,rfl⟩:=extract_bytes hle hc;exact (skip_all p s k j h1 h2).2
variable {p:Nat}
theorem tok_tok:((tok s p).kind=110->IsTok 2 (bytesL (tok s p).text))/\((tok s p).kind=118->IsTok 3 (bytesL (tok s p).text)):=by
 unfold tok;generalize skip aH s p=k;unfold tokAt
 by_cases c0:s.size<=k
 ·rw[if_pos c0];exact⟨(λ h=>by cases h),(λ h=>by cases h)⟩
 rw[if_neg c0]
 by_cases c1:k<skip aP s k
 ·rw[if_pos c1]
  by_cases c2:(s.extract k (skip aP s k)).toList=[110,111,116]
  ·rw[if_pos c2];exact⟨(λ h=>by cases h),(λ h=>by cases h)⟩
  rw[if_neg c2]
  by_cases c3:skip aP s k-k<=8
  ·rw[if_pos c3];obtain⟨h1,h2,h3⟩:=isTok_of (p:=aP) (by omega) c1 c3;exact⟨λ _=>.name h1 h2 h3 (λ e=>c2 (by rw[ByteArray.toList_eq];exact e)),(λ h=>by cases h)⟩
  ·rw[if_neg c3];exact⟨(λ h=>by cases h),(λ h=>by cases h)⟩
 rw[if_neg c1]
 by_cases c4:k<skip aL s k
 ·rw[if_pos c4]
  by_cases c3:skip aL s k-k<=8
  ·rw[if_pos c3];obtain⟨h1,h2,h3⟩:=isTok_of (p:=aL) (by omega) c4 c3;exact⟨(λ h=>by cases h),λ _=>.var h1 h2 h3⟩
  ·rw[if_neg c3];exact⟨(λ h=>by cases h),(λ h=>by cases h)⟩
 rw[if_neg c4]
 by_cases c5:signLen s k=0
 ·rw[if_pos c5];exact⟨(λ h=>by cases h),(λ h=>by cases h)⟩
 rw[if_neg c5]
 by_cases c6:signLen s k=2
 ·rw[if_pos c6];exact⟨(λ h=>by cases h),(λ h=>by cases h)⟩
 ·rw[if_neg c6];exact⟨(λ h=>by cases h),(λ h=>by cases h)⟩
theorem lT:((ae s p).1=2->IsTok 2 (bytesL (rword s p)))/\((ae s p).1=3->IsTok 3 (bytesL (rword s p))):=by
 by_cases hp:p<=s.size
 ·have K:=kinds s p hp;have T:=tok_tok (s:=s) (p:=p)
  constructor
  ·intro h;rw[K.word (.inl (K.k2.1 h))];exact T.1 (K.k2.1 h)
  ·intro h;rw[K.word (.inr (K.k3.1 h))];exact T.2 (K.k3.1 h)
 ·have e:skip aH s p=p:=skip_end _ _ _ (by omega);have z:(s.extract p s.size).size=0:=by rw[ByteArray.size_extract];omega
  have:(ae s p).1=0:=by unfold ae;rw[e];simp only;unfold bJ;rw[dif_neg (by omega)]
  exact⟨(λ h=>by omega),(λ h=>by omega)⟩
def TmOk (t:Bool × B8):Prop:=IsTok (tmTk t).1 (tmTk t).2
theorem tm_ok (h:(ae s p).1=2\/(ae s p).1=3):TmOk (decide ((ae s p).1=3),rword s p):=by
 unfold TmOk tmTk;rcases h with h | h
 ·rw[h];exact lT.1 h
 ·rw[h];exact lT.2 h
theorem pterms_tok (s:B8)(f:Nat):∀ {p:Nat} {l:List (Bool × B8)} {pl:Nat->Nat},(∀ t∈l,TmOk t)->∀ t∈(ptermsS s f p l pl).2.2.1,TmOk t:=by
 induction f with
 | zero=>intro p l pl h;exact h
 | succ f ih=>
  intro p l pl h;rw[ptermsS]
  split
  ·rename_i hk;have h':∀ t∈l++[(decide ((ae s p).1=3),rword s p)],TmOk t:=λ t ht=>by
    rcases List.mem_append.1 ht with ht | ht
    ·exact h t ht
    ·rw[List.mem_singleton.1 ht];exact tm_ok hk
   split
   ·exact ih h'
   ·exact h'
  ·exact h
structure AtomK (pd:B8)(ts:List (Bool × B8)):Prop where
 pd:IsTok 2 (bytesL pd)
 ts:∀ t∈ts,TmOk t
theorem kv {q:Nat}{pd:B8}{ts:List (Bool × B8)}{pl:Nat->Nat}(h:patomS s p=.yes q pd ts pl):AtomK pd ts:=by
 unfold patomS at h
 by_cases c1:(ae s p).1=2
 ·rw[if_pos c1] at h
  by_cases c2:(ae s (ae s p).2.2).1=5
  ·rw[if_pos c2] at h
   by_cases c3:(ptermsS s 4 (ae s (ae s p).2.2).2.2 [] (λ _=>0)).1=true
   ·rw[if_pos c3] at h;injection h with h1 h2 h3 h4
    subst h2 h3;exact⟨lT.1 c1,pterms_tok s 4 (by simp)⟩
   ·rw[if_neg c3] at h;cases h
  ·rw[if_neg c2] at h;injection h with h1 h2 h3 h4
   subst h2 h3;exact⟨lT.1 c1,by simp⟩
 ·rw[if_neg c1] at h;cases h
def RuleT (R:PRule):Prop:=AtomK R.pd R.ts/\∀ l∈R.body,AtomK l.pd l.ts
theorem pbody_tok (s:B8)(num f:Nat):∀ {p:Nat} {l:List PLit} {ms:List PMen},(∀ x∈l,AtomK x.pd x.ts)->∀ x∈(pbodyS s num f p l ms).2.2.1,AtomK x.pd x.ts:=by
 induction f with
 | zero=>intro p l ms hl;exact hl
 | succ f ih=>
  intro p l ms hl;rw[pbodyS]
  cases hr:patomS s (rtake s p 4) with
  | no q=>exact hl
  | yes q pd ts pl=>
   have mE:∀ x∈l++[cJ s p pd ts],AtomK x.pd x.ts:=λ x hx=>by
    rcases List.mem_append.1 hx with hx | hx
    ·exact hl x hx
    ·simp at hx;subst hx;exact kv hr
   simp only
   split
   ·exact ih (p:=(ae s q).2.2) mE
   ·exact mE
theorem prule_tok (s:B8)(num p:Nat)(ms:List PMen)(h:(pruleS s num p ms).1=true):RuleT (pruleS s num p ms).2.2.1:=by
 unfold pruleS at h ⊢
 cases hr:patomS s p with
 | no q=>rw[hr] at h;cases h
 | yes q pd ts pl=>
  rw[hr] at h;simp only at h ⊢
  split
  ·exact⟨kv hr,by simp⟩
  ·split
   ·exact⟨kv hr,pbody_tok s num 3 (p:=(ae s q).2.2) (l:=[]) (by simp)⟩
   ·exact⟨kv hr,by simp⟩
theorem prules_tok (s:B8)(f:Nat):∀ {p:Nat} {rs:List PRule} {ms:List PMen},(∀ R∈rs,RuleT R)->∀ R∈(prulesS s f p rs ms).2.2.1,RuleT R:=by
 induction f with
 | zero=>intro p rs ms hr;exact hr
 | succ f ih=>
  intro p rs ms hr;rw[prulesS]
  split
  ·exact hr
  ·split
   ·exact hr
   ·split
    ·rename_i hy;refine ih (λ R hR=>?_);rcases List.mem_append.1 hR with hR | hR
     ·exact hr R hR
     ·rw[List.mem_singleton.1 hR];exact prule_tok s _ _ _ hy
    ·exact hr
theorem words_of (s:B8):∀ R∈(pparsed s).2.2.1,WordsOk R:=λ R hR=>by
 obtain⟨h1,h2⟩:=prules_tok s 31 (p:=0) (rs:=[]) (ms:=[]) (by simp) R hR;exact⟨h1.pd,h1.ts,λ l hl=>(h2 l hl).pd,λ l hl=>(h2 l hl).ts⟩
def prX (R:PRule):PR:=⟨R,.bool false,R.body.map λ l=>(l,.bool false),.bool false⟩
theorem prX_bs (R:PRule):(prX R).bs.map (·.1)=(prX R).R.body:=by
 unfold prX;simp[List.map_map,Function.comp_def]
theorem rules_ok (h:(refLoad s).1=true):∃ lv:B8->Nat,∀ R∈(pparsed s).2.2.1,RuleOkK (λ k=>(numOf (aj s).2 k).getD 0) lv R:=by
 have hg:=good_of h;obtain⟨lv,IY,_⟩:=hg.some_;have hrel:=rules_rel (rp:=(pparsed s).2.2.1.map prX) h (by rw[List.map_map];exact List.map_id _) (λ r hr=>by obtain⟨R,_,rfl⟩:=List.mem_map.1 hr;exact prX_bs R);refine⟨lv,λ R hR=>?_⟩;have hG:=hrel.dh (prX R) (List.mem_map_of_mem hR);have oi:∀ {x:PLit × Value},x∈(prX R).bs->x.1∈R.body:=λ {x} hx=>by
  have:=List.mem_map_of_mem (f:=(·.1)) hx
  rwa [prX_bs] at this
 have DZ:∀ l∈R.body,∃ x∈(prX R).bs,x.1=l:=λ l hl=>⟨(l,.bool false),List.mem_map.2 ⟨l,hl,rfl⟩,rfl⟩
 have hk:=IY R hR;refine⟨⟨hG.hd.w.ft,hg.body R hR,λ l hl=>?_⟩,?_,λ l hl=>?_,λ t ht hv=>?_,λ l hl hn t ht hv=>?_,λ l hl=>?_,λ l hl hn=>?_⟩
 ·obtain⟨x,hx,rfl⟩:=DZ l hl;exact (hG.ls x hx).w.ft
 ·have:=hG.hd.num
  show R.ts.length=(numOf (aj s).2 R.pd).getD 0
  rw[show numOf (aj s).2 R.pd=some R.ts.length from this];rfl
 ·obtain⟨x,hx,rfl⟩:=DZ l hl
  show x.1.ts.length=(numOf (aj s).2 x.1.pd).getD 0
  rw[show numOf (aj s).2 x.1.pd=some x.1.ts.length from (hG.ls x hx).num];rfl
 ·obtain⟨a,ha,zu⟩:=hG.mP t ht hv;obtain⟨x,hx,BO,rfl⟩:=mem_pos.1 ha;exact⟨x.1,oi hx,BO,zu⟩
 ·obtain⟨x,hx,rfl⟩:=DZ l hl;obtain⟨a,ha,zu⟩:=hG.mQ ⟨x.1.pd,x.1.ts⟩ (mem_neg.2 ⟨x,hx,hn,rfl⟩) t ht hv;obtain⟨y,hy,JY,rfl⟩:=mem_pos.1 ha;exact⟨y.1,oi hy,JY,zu⟩
 ·have:=hk l hl
  split at this <;> omega
 ·have:=hk l hl;rw[if_pos hn] at this;omega
theorem terms_rend:∀ (ts:List (Bool × B8)) (i:Nat),ts≠[]->termsT ts i++[41]=(if i=0 then 40 else 44)::rend (termsIt ts)
 | [],_,h=>absurd rfl h
 | [t],i,_=>by simp[termsT,termsIt,rend,tmTk,bytesL]
 | t::u::r,i,_=>by
  have ih:=terms_rend (u::r) (i+1) (by simp);rw[if_neg (by omega)] at ih;rw[termsT,termsIt,List.cons_append,List.append_assoc,ih,rend_cons,rend_cons];simp[tmTk,bytesL]
theorem atom_rend (b:List UInt8)(pd:B8)(ts:List (Bool × B8)):rend (atomIt b pd ts)=b++atomT pd ts:=by
 unfold atomT atomIt
 cases ts with
 | nil=>simp[termsT,rend,bytesL]
 | cons t r=>
  have:=terms_rend (t::r) 0 (by simp);rw[if_pos rfl] at this;rw[if_neg (by simp),this];simp only[rend_cons,List.nil_append];rfl
theorem lit_rend (b:List UInt8)(l:PLit):rend (litIt b l)=b++litT l:=by
 unfold litIt litT
 cases l.neg with
 | true=>
  simp only[if_true];rw[rend_cons,atom_rend];simp
 | false=>
  simp only[Bool.false_eq_true,if_false];rw[atom_rend];simp
theorem body_rend:∀ (ls:List PLit) (i:Nat),ls≠[]->litsT ls i++[46]=(if i=0 then [32,58,45] else [44])++rend (bodyIt ls)
 | [],_,h=>absurd rfl h
 | [l],i,_=>by
  rw[litsT,bodyIt,rend_append,lit_rend]
  by_cases h:i=0 <;> simp[h,litsT,rend]
 | l::m::r,i,_=>by
  have ih:=body_rend (m::r) (i+1) (by simp);rw[if_neg (by omega)] at ih;rw[litsT,bodyIt,rend_append,lit_rend,rend_cons,List.append_assoc,List.append_assoc,ih]
  by_cases h:i=0 <;> simp[h]
theorem rule_rend (R:PRule):ruleT R=rend (ruleIt [] R)++[10]:=by
 unfold ruleT ruleIt;rw[rend_append,atom_rend,List.nil_append,List.append_assoc]
 congr 1
 cases hb:R.body with
 | nil=>rfl
 | cons l r=>
  have:=body_rend (l::r) 0 (by simp);rw[if_pos rfl] at this;simp only;rw[show ([46,10]:List UInt8)=[46]++[10] from rfl,<-List.append_assoc,this,rend_cons];rfl
theorem print_rend {rules:List PRule}(h:rules≠[]):printT rules=rend (rulesIt [10] [] rules)++[10]:=by
 rw[rules_rend [10] rules []]
 cases rules with
 | nil=>exact absurd rfl h
 | cons R r=>
  unfold printT;simp only[List.nil_append,List.append_nil];exact congrArg (λ f=>(R::r).flatMap f) (funext rule_rend)
theorem printed_ok (h:(refLoad s).1=true)(hsz:(printT (pparsed s).2.2.1).length<=800):refLoad (bk (printT (pparsed s).2.2.1))=(true,0,0)/\(pparsed (bk (printT (pparsed s).2.2.1))).2.2.1=(pparsed s).2.2.1:=by
 obtain⟨lv,hR⟩:=rules_ok h;have hw:=words_of s;have hl:=(good_of h).len;have hb:∀ c∈[(10:UInt8)],aH c.toNat=true:=λ c hc=>blank1 c (.inr (List.mem_singleton.1 hc))
 generalize (pparsed s).2.2.1=rules at *
 cases rules with
 | nil=>exact written_ok (sep:=[10]) (tail:=[]) hb (by simp) (by simp) (rules:=[]) (ar:=λ k=>(numOf (aj s).2 k).getD 0) (lv:=lv) (by rw[txt8_size];exact hsz) hR hw hl rfl
 | cons R r=>exact written_ok (sep:=[10]) (tail:=[10]) hb (by simp) hb (ar:=λ k=>(numOf (aj s).2 k).getD 0) (lv:=lv) (by rw[txt8_size];exact hsz) hR hw hl (print_rend (by simp))
theorem preds_same {s':B8}(h:(refLoad s).1=true)(h':(refLoad s').1=true)(hR:(pparsed s).2.2.1=(pparsed s').2.2.1):(aj s).2=(aj s').2:=by
 rw[<-(good_of h).met,<-(good_of h').met,hR]
theorem text_print (R:Nat->Raw){n:Nat}(hn:n<=14):(printT (pparsed (bk (cw (λ i=>bf (R i)) n))).2.2.1).length<=800:=by
 rw[(textK_ok (λ i=>bf (R i)) n hn (λ i _=>lineOf_ok _ _ _ _)).2,print_rend (by unfold rulesK;simp)];have h1:=textB_rend (λ i=>bf (R i)) n;have h2:=textB_len (λ i=>bf (R i)) n;have h3:∀ (rules:List PRule) (b:List UInt8),b.length<=1->(rend (rulesIt [10] b rules)).length=(rend (rulesIt [32] b rules)).length:=λ rules=>by
  induction rules with
  | nil=>intro b _;rfl
  | cons Q r ih=>
   intro b _;rw[rulesIt,rulesIt,rend_append,rend_append,List.length_append,List.length_append];have hs:∀ c:UInt8,(rend (rulesIt [c] [10] r)).length=(rend (rulesIt [c] [32] r)).length:=λ c=>by
    cases r with
    | nil=>rfl
    | cons Q r=>
     rw[rulesIt,rulesIt,rend_append,rend_append,List.length_append,List.length_append];have e1:=rule_sep [10] Q [];have e2:=rule_sep [32] Q [];rw[List.append_nil,List.append_nil] at e1 e2;rw[e1,e2];simp
   rw[hs 10,ih [32] (by simp)]
 have h4:=congrArg List.length h1;rw[List.length_append] at h4 ⊢;rw[h3 _ _ (by simp)];simp only[List.length_singleton] at h4 ⊢;omega
end
section
noncomputable def pickP {Ty:Type}(P:Ty->Prop)(d:Ty):Ty:=open Classical in if h:∃ r,P r then h.choose else d
theorem reaK_pick (ps:P9)(rp:List PR)(S:B8->Nat)(K:List (Th × Nat))(O:List Pl):reaK ps rp S K O=pickP (OfArg ps S rp K O) λ _=>(0,[]):=rfl
variable {rs:List PR}
theorem reaK_eq {ps:P9}{rp:List PR}(hm:rs.map (·.R)=rp.map (·.R))(ha:∀ r∈rs,r.bs.map (·.1)=r.R.body)(hb:∀ r∈rp,r.bs.map (·.1)=r.R.body)(S:B8->Nat){K K':List (Th × Nat)}(hK:K.Perm K')(O:List Pl):reaK ps rs S K O=reaK ps rp S K' O:=by
 rw[reaK_pick,reaK_pick]
 have:OfArg ps S rs K O=OfArg ps S rp K' O:=funext λ r=>propext ⟨λ h=>by
  have h:=arg_congr hm ha hb h;exact⟨h.perm.trans (hK.map _),h.least,h.len,h.low⟩,λ h=>by
  have h:=arg_congr hm.symm hb ha h
  exact⟨h.perm.trans (hK.map _).symm,h.least,h.len,h.low⟩⟩
 rw[this]
theorem sorted_one {O O':List Pl}(h:O.Perm O')(h1:O.Pairwise λ p q=>lessPl p q=true)(h2:O'.Pairwise λ p q=>lessPl p q=true):O=O':=
 List.Perm.eq_of_pairwise (le:=λ p q=>lessPl p q=true) (λ a b _ _ h3 h4=>by
  have:=eS h3 h4;rw[fQ] at this
  cases this) h1 h2 h
theorem exp_same {s s':B8}{xb DT:Nat}{w w':W8}{lo DH:Nat}{qq:List PR}(hP:dt s xb w lo rs)(og:dt s' DT w' DH qq)(hR:(pparsed s).2.2.1=(pparsed s').2.2.1){q:B8}{t:Th}(hq:AskX s q t){w1 w2:W8}{e:Ending}(hE:PEOut w1 rs (aj s).2 q 50 (reaK (aj s).2 rs) w2 e):∃ (v hh er:Nat) (a:O8) (c:Nat) (bs:List Nat),e=.returned (.tuple #[.agg #[.int .i64 (v:Nat),.int .i64 (hh:Nat),.slice a bs.length c],.int .i64 (er:Nat)])/\w2.ownsRow w1.heap.size 5 1 (.slice a bs.length c) bs.length (bs.map u8c)/\∀ (GM GN:W8) (e':Ending),PEOut GM qq (aj s').2 q 50 (reaK (aj s').2 qq) GN e'->∃ (a':O8) (c':Nat),e'=.returned (.tuple #[.agg #[.int .i64 (v:Nat),.int .i64 (hh:Nat),.slice a' bs.length c'],.int .i64 (er:Nat)])/\GN.ownsRow GM.heap.size 5 1 (.slice a' bs.length c') bs.length (bs.map u8c):=by
 have gj:=preds_same hP.ok og.ok hR;have JZ:thingS (aj s').2 q=some t:=by rw[<-gj];exact hq.sZ
 have bC:∀ R,R∈(pparsed s).2.2.1↔R∈(pparsed s').2.2.1:=λ R=>by rw[hR]
 have Ay:rs.map (·.R)=qq.map (·.R):=by rw[hP.rules,og.rules,hR]
 rcases explain_out (limit:=50) (by decide) (by decide) hP.cg hq.sZ hE with⟨S,m,hM,rfl⟩ | ⟨S,m,K,O,bs,a,c,hW,dB,rfl,aE⟩
 ·refine⟨0,0,7,none,0,[],rfl,World.ownsRow_nil _ _ _ _,λ GM GN e' IQ=>?_⟩;rcases explain_out (limit:=50) (by decide) (by decide) og.cg JZ IQ with⟨S',m',vE,rfl⟩ | ⟨S',m',K',O',bs',a',c',xT,JR,rfl,_⟩
  ·exact⟨none,0,rfl,World.ownsRow_nil _ _ _ _⟩
  ·rcases Mod.two hP og bC hM xT.mod with⟨_,e⟩ | ⟨_,_,e,_⟩
   ·cases e
   ·cases e
 ·refine⟨_,_,0,a,c,bs,rfl,aE,λ GM GN e' IQ=>?_⟩;rcases explain_out (limit:=50) (by decide) (by decide) og.cg JZ IQ with⟨S',m',vE,rfl⟩ | ⟨S',m',K',O',bs',a',c',xT,JR,rfl,AK⟩
  ·rcases Mod.two hP og bC hW.mod vE with⟨e,_⟩ | ⟨_,_,_,e,_⟩
   ·cases e
   ·cases e
  ·rcases Mod.two hP og bC hW.mod xT.mod with⟨e,_⟩ | ⟨_,_,e1,e2,e3,_⟩
   ·cases e
   ·obtain rfl:=Option.some.inj e1;obtain rfl:=Option.some.inj e2;have hm:∀ R,R∈rs.map (·.R)↔R∈qq.map (·.R):=λ R=>by rw[Ay]
    obtain rfl:=low_uniq hm hW.mod.valid hW.mod.low xT.mod.valid xT.mod.low;have hO:=sorted_one (hW.perm.trans ((e3.map _).trans xT.perm.symm)) hW.sort xT.sort;subst hO;have hl:=look_same e3 dB t;have cT:bs'=bs:=by
     rw[xT.eq,hW.eq,<-gj,reaK_eq Ay hP.cg og.cg S e3 O];unfold expL jw a8;rw[hl]
    subst cT;exact⟨a',c',by rw[hl];rfl,AK⟩
end
section
open Go.RowKit Go.Maps
variable {s:B8}
theorem ref_no (h:(refLoad s).1=false):¬ (refLoad s).2.1=0:=by
 unfold refLoad at h ⊢
 by_cases c1:800<s.size
 ·rw[if_pos c1];decide
 rw[if_neg c1] at h ⊢
 split at h
 ·rename_i c;rw[if_pos c];exact (λ h=>by cases h)
 rename_i c;rw[if_neg c]
 split at h
 ·rename_i c;rw[if_pos c];exact (λ h=>by cases h)
 rename_i c;rw[if_neg c]
 split at h
 ·rename_i c;rw[if_pos c];exact (λ h=>by cases h)
 rename_i c;rw[if_neg c]
 split at h
 ·rename_i c;rw[if_pos c];exact (λ h=>by cases h)
 ·cases h
theorem ref_yes (h:(refLoad s).1=true):refLoad s=(true,0,0):=by
 unfold refLoad at h ⊢
 by_cases c1:800<s.size
 ·rw[if_pos c1] at h;cases h
 rw[if_neg c1] at h ⊢
 split at h
 ·cases h
 rename_i c;rw[if_neg c]
 split at h
 ·cases h
 rename_i c;rw[if_neg c]
 split at h
 ·cases h
 rename_i c;rw[if_neg c]
 split at h
 ·cases h
 ·rename_i c;rw[if_neg c]
noncomputable def jH (s:B8):B8:=bk (printT (pparsed s).2.2.1)
theorem kprint {xb:Nat}{w:W8}{lo:Nat}{rs:List PR}(h:dt s xb w lo rs):Calls Tryz.prog 28 #[.pointer (some ⟨xb,0,none⟩)] w λ e w'=>e=.returned (.string (jH s))/\Below w.heap.size w w':=by
 have:=pprint_any w lo xb rs h.prog (by rw[h.rules];exact print_len h.ok);rw[h.rules] at this;exact this
structure PrtOk (s:B8):Prop where
 sz:(jH s).size<=maxLen
 ok:refLoad (jH s)=(true,0,0)
 rules:(pparsed s).2.2.1=(pparsed (jH s)).2.2.1
 again:jH (jH s)=jH s
theorem prtOk_of (h:(refLoad s).1=true)(h8:(jH s).size<=800):PrtOk s:=by
 have xF:(printT (pparsed s).2.2.1).length<=800:=by unfold jH at h8;rwa [txt8_size] at h8
 obtain⟨h1,h2⟩:=printed_ok h xF;exact⟨by unfold maxLen;omega,h1,h2.symm,by unfold jH;rw[h2]⟩
theorem prx_len (h:(refLoad s).1=true):(jH s).size<=1000000000:=by unfold jH;rw[txt8_size];exact print_len h
theorem printed_any (w:W8)(la:O8)(n c:Nat)(R:Nat->Raw)(hL:fo w la n R)(dG:n<=c)(dx:c<=maxLen)(wh:Int)(AI:inR wh)(s0:B8)(nI:s0.size<=maxLen):Calls Tryz.prog 12 #[.slice la n c,.int .i64 wh,.string s0] w (TruePost w):=by
 have HL:=hide hL;have HN:=hide (And.intro dG dx);have fH:=hide nI;have Fc:=hide AI;clear hL dG dx nI AI;go_enter Tryz.func12,Tryz.ntmps12;go_wp2_with fail;refine (kknown w).mono ?_;rintro e w1 ⟨rfl,aT⟩;have cR:=hide aT;have HT:=hide (ktext w1 la n c R ((ad HL).below aT) (ad HN).1 (ad HN).2 14 (by decide));clear aT;go_wp2_with fail;refine (ad HT).mono ?_;rintro e w2 ⟨rfl,aU⟩;have hK:=textK_of R (n:=min n 14) (by omega);have H3:=hide (prtOk_of (s:=bk (cw (λ i=>bf (R i)) (min n 14))) (by rw[hK.ok]) (by unfold jH;rw[txt8_size];exact text_print R (by omega)));generalize bk (cw (λ i=>bf (R i)) (min n 14))=s at *;have HK:=hide hK;have ep:=hide ((ad cR).trans (aU.mono (ad cR).size));have Ed:=hide (kload w2 s hK.sz hK.ok);clear hK aU HT cR HN HL;go_wp2_with fail;refine (ad Ed).mono ?_;rintro e w3 ⟨xb,rs,rfl,hP,cE⟩;have HP:=hide hP;have gh:=hide ((ad ep).trans (cE.mono (ad ep).size));have qE:=hide (kprint hP);clear hP cE ep Ed;go_wp2_with fail;refine (ad qE).mono ?_;rintro e w4 ⟨rfl,bQ⟩;have wY:=hide ((ad HP).below bQ);have eC:=hide ((ad gh).trans (bQ.mono (ad gh).size));have lR:=hide (ad H3).rules;have GX:=hide (ad H3).again;have Ed:=hide (kload w4 (jH s) (ad H3).sz (ad H3).ok);generalize jH s=x at *;clear bQ qE HP gh H3;go_wp2_with fail;refine (ad Ed).mono ?_;rintro e w5 ⟨yb,rq,rfl,hQ,eO⟩;have HQ:=hide hQ;have Bn:=hide ((ad wY).below eO);have jn:=hide ((ad eC).trans (eO.mono (ad eC).size));have qE:=hide (kprint hQ);rw[ad GX] at qE;clear hQ eO wY eC Ed GX;go_wp2_with fail;refine (ad qE).mono ?_;rintro e w6 ⟨rfl,iA⟩;have z7:=hide ((ad HQ).below iA);have Bo:=hide ((ad Bn).below iA);have mU:=hide ((ad jn).trans (iA.mono (ad jn).size));clear iA qE HQ Bn jn;go_wp2_with fail;refine (kthings w6).mono ?_;rintro e w7 ⟨a7,c7,rfl,aE,mB⟩;have BI:qd w7 a7 c7 my:=qd.ib (by rw[thAll_len];exact aE)
 have Ht:=BI.cap;have DB:=BI.max;rw[thAll_len] at Ht;unfold maxLen at DB;have Eo:=hide ((ad z7).below mB);have Bp:=hide ((ad Bo).below mB);have zP:=hide ((ad mU).trans (mB.mono (ad mU).size));have zz:=(pickN_is wh (n:=64) (by decide)).1;have H2:=hide (λ W=>kpick W wh 64 (by decide) (by decide) (ad Fc).1 (ad Fc).2);generalize ag wh 64=ix at *;obtain⟨g7,rfl,qs,Em⟩:=BI.at_ ix (by rw[thAll_len];exact zz);have hq:my[ix]'(by rw[thAll_len];exact zz)=jX (ix/16) (ix%16):=by
  have:=thAll_at zz;rw[List.getElem?_eq_getElem (by rw[thAll_len];exact zz)] at this;exact Option.some.inj this
 rw[hq] at Em;have HX:=hide (askX_th (ad HK).two ix);generalize jX (ix/16) (ix%16)=q at *;generalize thX ix=t at *;have I4:(ix:Int)<64:=by omega
 have ER:=hide (show ∀ W,Below w7.heap.size w7 W->W.cell? ⟨g7,ix,none⟩=some (.string q)/\g7<W.heap.size from λ W h=>⟨(h.cell (p:=⟨g7,ix,none⟩) qs).trans Em,Nat.lt_of_lt_of_le qs h.size⟩);have HE:=hide (pent_explain (ad Bp) q (ad HX).sz 50);clear hq mB aE BI z7 Bo mU;go_wp2_with fail;refine (ad H2 _).mono ?_;rintro e w8 ⟨rfl,Ep⟩;have Ep:=Ep.symm;subst Ep;go_wp2_with fail;refine (ad HE).mono ?_;rintro e w8 ⟨ho,ue⟩;obtain⟨v,hh,er,a,c8,bs,rfl,mN,sE⟩:=exp_same (ad Bp) (ad Eo) (ad lR) (ad HX) ho;have oC:=hide sE;have tX:=(Below.refl w8.heap.size w8).alloc L9 (.cells #[.int .i64 (v:Nat),.int .i64 (hh:Nat),.slice a bs.length c8] 49);have hY:=heap_alloc_new w8 (.cells #[.int .i64 (v:Nat),.int .i64 (hh:Nat),.slice a bs.length c8] 49);have hsz:(w8.alloc (.cells #[.int .i64 (v:Nat),.int .i64 (hh:Nat),.slice a bs.length c8] 49)).heap.size=w8.heap.size+1:=by simp
 have fu:=ue.trans (tX.mono ue.size);have vn:=hide (pent_explain ((ad Eo).below fu) q (ad HX).sz 50);obtain⟨y1,y2⟩:=ad ER _ ue
 have vX:=hide (show ∀ w9,Below (w8.alloc (.cells #[.int .i64 (v:Nat),.int .i64 (hh:Nat),.slice a bs.length c8] 49)).heap.size (w8.alloc (.cells #[.int .i64 (v:Nat),.int .i64 (hh:Nat),.slice a bs.length c8] 49)) w9->Below w7.heap.size w7 w9/\w9.cell? ⟨w8.heap.size,0,none⟩=some (.int .i64 (v:Nat))/\w9.cell? ⟨w8.heap.size,1,none⟩=some (.int .i64 (hh:Nat))/\w9.cell? ⟨w8.heap.size,2,none⟩=some (.slice a bs.length c8)/\w8.heap.size<w9.heap.size/\w9.ownsRow w7.heap.size 5 1 (.slice a bs.length c8) bs.length (bs.map u8c) from λ w9 h9=>by
  have h8:=(h9.block w8.heap.size (by rw[hsz];omega)).trans hY;have IN:=h9.size;rw[hsz] at IN
  exact⟨fu.trans (h9.mono fu.size),by simp[World.cell?,h8],by simp[World.cell?,h8],by simp[World.cell?,h8],by omega,own_below mN (tX.trans (h9.mono (by rw[hsz];omega))) (λ g e=>(mN.lt g e).2)⟩)
 clear sE ho ue tX hY hsz fu Em qs mN;go_wp2_with fail;refine (ad H2 _).mono ?_;rintro e w9 ⟨rfl,Er⟩;have Er:=Er.symm;subst Er;go_wp2_with fail;refine (ad vn).mono ?_;rintro e w9 ⟨ho,Fj⟩;obtain⟨a',c9,rfl,tw⟩:=ad oC _ _ _ ho;obtain⟨qS,u0,u1,u2,u3,mN⟩:=ad vX w9 Fj;have cA:=conv_row (mN.alloc (.cells #[.int .i64 (v:Nat),.int .i64 (hh:Nat),.slice a' bs.length c9] 49)) rfl;have cB:=conv_row (tw.alloc (.cells #[.int .i64 (v:Nat),.int .i64 (hh:Nat),.slice a' bs.length c9] 49)) rfl;generalize strOfNums (bs.map λ (x:Nat)=>(x:Int)%256)=sw at *;have J6:(sw.toList==sw.toList)=true:=aW.2 rfl;have pL:(x.toList==x.toList)=true:=aW.2 rfl;have xU:=qS.alloc qS.size (.cells #[.int .i64 (v:Nat),.int .i64 (hh:Nat),.slice a' bs.length c9] 49);have oE:=hide ((ad zP).trans (xU.mono (ad zP).size));have qi:=pload_any (w9.alloc (.cells #[.int .i64 (v:Nat),.int .i64 (hh:Nat),.slice a' bs.length c9] 49)) s0 (ad fH);rw[load_eq] at qi;have Ed:=hide qi;clear ho Fj qS xU qi mN tw vX HE vn oC ER H2 Bp Eo zP lR HX HK;generalize w8.heap.size=b8 at *;go_wp2_with fail;refine (ad Ed).mono ?_;rintro e J5 ⟨wU,cP,eJ⟩;have nk:=hide ((ad oE).trans (wU.mono (ad oE).size))
 cases hR:(refLoad s0).1 with
 | false=>
  have he:=cP hR;have bG:=ref_no hR;subst he;generalize (refLoad s0).2.1=r1 at *;generalize (refLoad s0).2.2=r2 at *;clear eJ cP wU Ed oE cA cB;go_wp2_with fail;go_ret;exact⟨rfl,ad nk⟩
 | true=>
  obtain⟨zb,rz,rfl,hp,hr⟩:=eJ hR;have hZ:dt s0 zb J5 _ rz:=⟨hR,hp,hr⟩;rw[ref_yes hR];have HZ:=hide hZ;have HR:=hide hR;have Dz:=hide (kprint hZ);clear eJ cP wU Ed oE cA cB hZ hp hr hR;go_wp2_with fail;refine (ad Dz).mono ?_;rintro e Ke ⟨rfl,wW⟩;have pW:=hide ((ad nk).trans (wW.mono (ad nk).size));have hlen:=prx_len (ad HR)
  by_cases h8:800<(jH s0).size
  ·have IB:(800:Int)<((jH s0).size:Nat):=(by omega);generalize jH s0=z at *;clear Dz HZ wW nk;go_wp2_with fail;go_ret;exact⟨rfl,ad pW⟩
  ·have IB:¬ (800:Int)<((jH s0).size:Nat):=(by omega);have hO:=prtOk_of (ad HR) (by omega);have EW:=hide (kload Ke (jH s0) hO.sz hO.ok);have GX:=hide hO.again;generalize jH s0=z at *;have AL:(z.toList==z.toList)=true:=aW.2 rfl;clear Dz HZ wW nk hO;go_wp2_with fail;refine (ad EW).mono ?_;rintro e w13 ⟨yb,ry,rfl,hY,zN⟩;have Dy:=hide (kprint hY);rw[ad GX] at Dy;have tZ:=hide ((ad pW).trans (zN.mono (ad pW).size));clear hY zN EW pW GX;go_wp2_with fail;refine (ad Dy).mono ?_;rintro e w14 ⟨rfl,zO⟩;have C9:=hide ((ad tZ).trans (zO.mono (ad tZ).size));clear zO Dy tZ;go_wp2_with fail;go_ret;exact⟨rfl,ad C9⟩
end
end Go.Proofs.YtldkpahaocjdpaaGreat
