/-
  Plain: texts of any list of lines; the names of what follows.
-/
import Derived.Test.YtldkpahaocjdpaaGreatO50
set_option maxHeartbeats 16000000
set_option maxRecDepth 1000000
namespace Go.Proofs.YtldkpahaocjdpaaGreat
section
def listB (Ls:List KL):List UInt8:=Ls.flatMap cH
theorem listB_len:∀ Ls:List KL,(listB Ls).length<=40*Ls.length
 | []=>Nat.zero_le _
 | L::r=>by
  have h1:=lineB_len L;have h2:=listB_len r;unfold listB at *;rw[List.flatMap_cons,List.length_append,List.length_cons];omega
variable {Ls:List KL}
theorem listB_rend (h:Ls≠[]):listB Ls=rend (rulesIt [32] [] (Ls.map KL.rule))++[32]:=by
 rw[rules_rend [32] (Ls.map KL.rule) []]
 cases Ls with
 | nil=>exact absurd rfl h
 | cons L r=>
  unfold listB;simp only[List.map_cons,List.nil_append,List.append_nil,List.flatMap_cons,List.flatMap_map];rfl
theorem listK_ok (h0:Ls≠[])(hn:Ls.length<=18)(hL:∀ L∈Ls,L.Ok):refLoad (bk (listB Ls))=(true,0,0)/\(pparsed (bk (listB Ls))).2.2.1=Ls.map KL.rule:=by
 have hb:∀ c∈[(32:UInt8)],aH c.toNat=true:=λ c hc=>blank1 c (.inl (List.mem_singleton.1 hc))
 have bh:∀ R∈Ls.map KL.rule,RuleOkK (λ _=>2) pT R/\WordsOk R:=λ R hR=>by
  obtain⟨L,hm,rfl⟩:=List.mem_map.1 hR;exact⟨KL.ic (hL L hm),KL.words _⟩
 refine written_ok hb (by simp) hb (ar:=λ _=>2) (lv:=pT) ?_ (λ R hR=>(bh R hR).1) (λ R hR=>(bh R hR).2) ?_ (listB_rend h0)
 ·rw[txt8_size];have:=listB_len Ls;omega
 ·rw[List.length_map];omega
def IsNm (x:B8):Prop:=∃ i,i<4/\x=one8 (nmU i)
theorem nm_is (k:Nat):IsNm (one8 (nmU k)):=by
 match k with
 | 0=>exact⟨0,by decide,rfl⟩
 | 1=>exact⟨1,by decide,rfl⟩
 | 2=>exact⟨2,by decide,rfl⟩
 | 3=>exact⟨3,by decide,rfl⟩
 | k+4=>exact⟨0,by decide,rfl⟩
def NmK (s:B8):Prop:=∀ R∈(pparsed s).2.2.1,∀ t∈R.ts,t.1=false->IsNm t.2
theorem KL.nm (L:KL):∀ t∈L.rule.ts,t.1=false->IsNm t.2:=by
 cases L with
 | fact i j=>exact two_mem (λ _=>nm_is _) (λ _=>nm_is _)
 | rev h q x y=>exact two_mem (λ h=>by cases h) (λ h=>by cases h)
 | join h q r x y z=>exact two_mem (λ h=>by cases h) (λ h=>by cases h)
 | minus h q r x y=>exact two_mem (λ h=>by cases h) (λ h=>by cases h)
 | sX h q r x y n m=>exact two_mem (λ h=>by cases h) (λ _=>nm_is _)
theorem pX (h0:Ls≠[])(hn:Ls.length<=18)(hL:∀ L∈Ls,L.Ok):TwoP (aj (bk (listB Ls))).2:=by
 obtain⟨h1,h2⟩:=listK_ok h0 hn hL;have hg:=good_of (s:=bk (listB Ls)) (by rw[h1]);intro k m hk;rw[<-hg.met,h2] at hk;rcases num_meet _ _ _ _ hk with h | h
 ·cases h
 ·obtain⟨R,hR,hx⟩:=List.mem_flatMap.1 h;obtain⟨L,hm,rfl⟩:=List.mem_map.1 hR;exact KL.atoms (hL L hm) _ hx
theorem listK_of (h0:Ls≠[])(hn:Ls.length<=18)(hL:∀ L∈Ls,L.Ok):TextK (bk (listB Ls))/\NmK (bk (listB Ls)):=by
 obtain⟨h1,h2⟩:=listK_ok h0 hn hL;refine⟨⟨h1,?_,pX h0 hn hL,pT,λ R hR=>?_,λ k=>?_⟩,λ R hR=>?_⟩
 ·have:=listB_len Ls;rw[txt8_size];unfold maxLen;omega
 ·rw[h2] at hR;obtain⟨L,hm,rfl⟩:=List.mem_map.1 hR;have ho:=KL.ic (hL L hm);intro l hl;have h1:=ho.pos l hl;have h2:=ho.neg l hl
  split
  ·rename_i h;have:=h2 h;omega
  ·omega
 ·unfold pT
  split
  ·omega
  ·split
   ·omega
   ·split <;> omega
 ·rw[h2] at hR;obtain⟨L,hm,rfl⟩:=List.mem_map.1 hR;exact L.nm
theorem textB_list (L:Nat->KL)(n:Nat):cw L n=listB (.fact 0 1::(List.range n).map L):=by
 unfold cw listB;rw[List.flatMap_cons,List.flatMap_map];rfl
theorem text_oks (R:Nat->Raw)(n:Nat):∀ L∈KL.fact 0 1::(List.range n).map (λ i=>bf (R i)),L.Ok:=λ L hL=>by
 rcases List.mem_cons.1 hL with rfl | hL
 ·exact⟨by decide,by decide⟩
 ·obtain⟨i,_,rfl⟩:=List.mem_map.1 hL;exact lineOf_ok _ _ _ _
theorem nm_text (R:Nat->Raw){n:Nat}(hn:n<=14):NmK (bk (cw (λ i=>bf (R i)) n)):=by
 rw[textB_list];exact (listK_of (by simp) (by simp;omega) (text_oks R n)).2
def EnvP (P:B8->Prop)(e:ax):Prop:=∀ v x,pAt e v=some x->P x
variable {P:B8->Prop}
theorem pmT_P {e e':ax}{t:PTerm}{n:B8}(hn:P n)(he:EnvP P e)(h:pmT e t n=some e'):EnvP P e':=by
 unfold pmT at h
 split at h
 ·unfold pmB at h
  split at h
  ·split at h
   ·cases h;exact he
   ·cases h
  ·cases h
   intro v x hx;rw[pAt_snoc] at hx
   split at hx
   ·rename_i y hy
    cases hx
    exact he v _ hy
   ·split at hx
    ·cases hx;exact hn
    ·cases hx
 ·split at h
  ·cases h;exact he
  ·cases h
theorem pmTs_P {P:B8->Prop}:∀ (ts:List PTerm) (ns:List B8) (e e':ax),ts.length=ns.length->(∀ x∈ns,P x)->EnvP P e->pmTs e ts ns=some e'->EnvP P e'
 | [],_,e,e',_,_,he,h=>by rw[pmTs] at h;cases h;exact he
 | t::ts,[],_,_,hl,_,_,_=>by cases hl
 | t::ts,n::ns,e,e',hl,hn,he,h=>by
  rw[pmTs] at h;simp only[List.headD_cons,List.tail_cons] at h
  cases h1:pmT e t n with
  | none=>rw[h1] at h;cases h
  | some e1=>
   rw[h1] at h;exact pmTs_P ts ns e1 e' (by simpa using hl) (λ x hx=>hn x (List.mem_cons_of_mem _ hx)) (pmT_P (hn n List.mem_cons_self) he h1) h
theorem pmatches_P {P:B8->Prop}{ps:P9}{K:List (Th × Nat)}(hK:∀ p∈K,eE ps p.1/\∀ x∈p.1.2,P x):∀ (pos:List PAtm) (e0 e:ax),(∀ a∈pos,AtomG ps a)->EnvP P e0->e∈pmatches K pos e0->EnvP P e
 | [],e0,e,_,he,h=>by
  rw[pmatches] at h;rw[List.mem_singleton.1 h];exact he
 | a::r,e0,e,ha,he,h=>by
  rw[pmatches] at h;obtain⟨p,hp,h⟩:=List.mem_flatMap.1 h
  cases hm:aG e0 a p.1 with
  | none=>rw[hm] at h;simp at h
  | some e1=>
   rw[hm] at h;refine pmatches_P hK r e1 e (λ x hx=>ha x (List.mem_cons_of_mem _ hx)) ?_ h;unfold aG at hm
   split at hm
   ·rename_i c;have gG:a.p=p.1.1:=aW.1 c;have hl:a.ts.length=p.1.2.length:=by
     have h1:=(ha a List.mem_cons_self).num;rw[gG,(hK p hp).1.num] at h1;exact (Option.some.inj h1).symm
    exact pmTs_P a.ts p.1.2 e0 e1 hl (hK p hp).2 he hm
   ·cases hm
variable {rs:List PR}
theorem closed_P {ps:P9}(h:∀ r∈rs,bF ps r)(hc:∀ r∈rs,∀ t∈r.R.ts,t.1=false->P t.2):dr rs (λ t=>eE ps t/\∀ x∈t.2,P x):=λ K hK r hr=>by
 have hC:=closed_of h K (λ p hp=>(hK p hp).1) r hr;refine⟨hC.1,λ e he=>⟨hC.2 e he,λ x hx=>?_⟩⟩;have hE:=pmatches_P hK (posOf r.bs) [] e (h r hr).pos (λ v x hx=>by cases hx) he;obtain⟨_,b⟩:=pmatches_env (λ p hp=>(hK p hp).1) (posOf r.bs) [] e (h r hr).pos envW_nil he;obtain⟨t,ht,rfl⟩:=List.mem_map.1 hx;unfold cd
 split
 ·rename_i hv;obtain⟨a,ha,zu⟩:=(h r hr).mP t ht hv;obtain⟨y,hy⟩:=b a ha t zu hv;unfold dD;rw[hy];exact hE _ _ hy
 ·rename_i hv;exact hc r hr t ht (by simpa using hv)
variable {K:List (Th × Nat)} {m limit lo xb:Nat} {S:B8->Nat} {w:W8} {s:B8}
theorem Mod.nm (hP:dt s xb w lo rs)(hn:NmK s)(hM:Mod s rs limit S m (some K)):∀ p∈K,eE (aj s).2 p.1/\∀ x∈p.1.2,IsNm x:=
 strat_ti (closed_P hP.dh λ r hr=>hn r.R (by rw[<-hP.rules];exact List.mem_map_of_mem hr)) hM.gJ (by simp) K rfl
theorem thX_of {p i j:Nat}(hp:p<4)(hi:i<4)(hj:j<4):16*p+4*i+j<64/\qs (16*p+4*i+j)=thK p i j:=by
 have h1:(16*p+4*i+j)/16=p:=by omega
 have h2:(16*p+4*i+j)%16/4=i:=by omega
 have h3:(16*p+4*i+j)%16%4=j:=by omega
 refine⟨by omega,?_⟩;unfold qs;rw[h1,h2,h3]
theorem Mod.vc (hP:dt s xb w lo rs)(h2:TwoP (aj s).2)(hn:NmK s)(hM:Mod s rs limit S m (some K)):∀ p∈K,∃ x,x<64/\p.1=qs x:=λ p hp=>by
 obtain⟨hI,hx⟩:=hM.nm hP hn p hp;obtain⟨hl,i,hi,he⟩:=h2 _ _ hI.num;obtain⟨⟨pd,ts⟩,n⟩:=p;obtain⟨a,b,rfl⟩:∃ a b,ts=[a,b]:=by
  match ts,hl with
  | [a,b],_=>exact⟨a,b,rfl⟩
 obtain⟨u,hu,rfl⟩:=hx a List.mem_cons_self;obtain⟨v,hv,rfl⟩:=hx b (List.mem_cons_of_mem _ List.mem_cons_self);have he:pd=fl i:=he;subst he;exact⟨_,(thX_of hi hu hv).1,((thX_of hi hu hv).2).symm⟩
theorem all_ask (hP:dt s xb w lo rs)(h2:TwoP (aj s).2)(hn:NmK s)(hM:Mod s rs limit S m (some K)){z:B8}(hz:z∈allL K 4):∃ x,x<64/\AskX s z (qs x):=by
 unfold allL at hz;obtain⟨k,_,h⟩:=List.mem_flatMap.1 hz;unfold jv at h;rw[sortT_mem] at h;obtain⟨p,hp,rfl⟩:=List.mem_map.1 h;obtain⟨x,hx,e⟩:=hM.vc hP h2 hn p (List.mem_filter.1 hp).1;refine⟨x,hx,?_⟩;rw[e,thX_text];exact askX_th h2 x
end
section
open Go.RowKit Go.Maps
variable {s s':B8}
theorem preds_sub (h:(refLoad s).1=true)(h':(refLoad s').1=true)(hR:∀ R,R∈(pparsed s).2.2.1->R∈(pparsed s').2.2.1)(k:B8):(numOf (aj s).2 k).isSome=true->(numOf (aj s').2 k).isSome=true:=λ hk=>by
 have g:=good_of h;have g':=good_of h';obtain⟨n,hn⟩:=Option.isSome_iff_exists.1 hk;rw[<-g.met] at hn;rcases num_meet _ _ _ _ hn with e | e
 ·cases e
 ·obtain⟨R,xS,hx⟩:=List.mem_flatMap.1 e;obtain⟨n1,n2⟩:=g'.named R (hR R xS);unfold aZ at hx;rcases List.mem_cons.1 hx with e | e
  ·obtain⟨m,hm⟩:=n1;have e1:k=R.pd:=congrArg Prod.fst e;rw[e1,hm];rfl
  ·obtain⟨l,hl,e⟩:=List.mem_map.1 e;obtain⟨m,hm⟩:=n2 l hl;have e1:l.pd=k:=congrArg Prod.fst e;rw[<-e1,hm];rfl
variable {m:Nat} {S:B8->Nat}
theorem count_same {ps AQ:P9}(h:∀ k,(numOf ps k).isSome=true↔(numOf AQ k).isSome=true)(hc:IsCount ps S m):IsCount AQ S m:=
 ⟨λ k hk=>hc.1 k ((h k).2 hk),hc.2.imp id λ ⟨k,hk,e⟩=>⟨k,(h k).1 hk,e⟩⟩
variable {rs qq:List PR} {lo DH xb DT:Nat} {w w':W8}
theorem Mod.two (hP:dt s xb w lo rs)(og:dt s' DT w' DH qq)(hR:∀ R,R∈(pparsed s).2.2.1↔R∈(pparsed s').2.2.1){limit:Nat}{S':B8->Nat}{m':Nat}{r r':Option (List (Th × Nat))}(h:Mod s rs limit S m r)(h':Mod s' qq limit S' m' r'):(r=none/\r'=none)\/∃ K K',r=some K/\r'=some K'/\K.Perm K'/\K.length<=limit:=by
 have hm:∀ R,R∈rs.map (·.R)↔R∈qq.map (·.R):=λ R=>by rw[hP.rules,og.rules];exact hR R
 have jg:bg rs qq:=⟨hm,hP.cg,og.cg⟩;obtain rfl:=low_uniq hm h.valid h.low h'.valid h'.low;have gj:∀ k,(numOf (aj s).2 k).isSome=true↔(numOf (aj s').2 k).isSome=true:=λ k=>⟨preds_sub hP.ok og.ok (λ R=>(hR R).1) k,preds_sub og.ok hP.ok (λ R=>(hR R).2) k⟩
 obtain rfl:=count_uniq (count_same gj h.count) h'.count;exact strat_det jg h.gJ (List.Perm.refl _) (Nat.zero_le _) h'.gJ
theorem look_same {K K':List (Th × Nat)}(h:K.Perm K')(hn:(K.map (·.1)).Nodup)(t:Th):ay K t=ay K' t:=by
 have qk:(K'.map (·.1)).Nodup:=(h.map _).nodup_iff.1 hn
 cases hk:ay K t with
 | none=>
  cases sl:ay K' t with
  | none=>rfl
  | some n=>
   have:=look_perm h t;rw[hk,sl] at this;cases this
 | some n=>exact (lookN_of qk (h.mem_iff.1 (bp hk))).symm
variable {zs:List B8}
theorem tell_two (hP:dt s xb w lo rs)(og:dt s' DT w' DH qq)(hR:∀ R,R∈(pparsed s).2.2.1↔R∈(pparsed s').2.2.1){sm zN:Bool}{DZ:List B8}(h:TellK s rs sm zs)(h0:sm=false->zs=[])(h':TellK s' qq zN DZ)(qN:zN=false->DZ=[]):sm=zN/\zs=DZ:=by
 obtain⟨S,m,h⟩:=h;obtain⟨S',m',h'⟩:=h'
 cases sm with
 | false=>
  cases zN with
  | false=>exact⟨rfl,by rw[h0 rfl,qN rfl]⟩
  | true=>
   obtain⟨K,hK,_⟩:=h';rcases Mod.two hP og hR h hK with⟨_,e⟩ | ⟨_,_,e,_⟩
   ·cases e
   ·cases e
 | true=>
  obtain⟨K,hK,rfl⟩:=h
  cases zN with
  | false=>
   rcases Mod.two hP og hR hK h' with⟨e,_⟩ | ⟨_,_,_,e,_⟩
   ·cases e
   ·cases e
  | true=>
   obtain⟨K',tZ,rfl⟩:=h';rcases Mod.two hP og hR hK tZ with⟨e,_⟩ | ⟨_,_,e1,e2,e3,_⟩
   ·cases e
   ·obtain rfl:=Option.some.inj e1;obtain rfl:=Option.some.inj e2;exact⟨rfl,jH e3 4⟩
variable {e:Ending}
theorem jX.pW (h:jX s rs w e w'):∃ a c zs sm,e=.returned (.tuple #[.slice a zs.length c,.bool sm])/\qd w' a c zs/\TellK s rs sm zs/\(sm=false->zs=[])/\Below w.heap.size w w':=by
 obtain⟨hb,S,m,r,hM,⟨rfl,rfl⟩ | ⟨K,a,c,rfl,hK,rfl,aE⟩⟩:=h
 ·exact⟨none,0,[],false,rfl,⟨Nat.le_refl _,by unfold maxLen;omega,λ j hj=>by simp at hj⟩,⟨S,m,hM⟩,λ _=>rfl,hb⟩
 ·exact⟨a,c,allL K 4,true,rfl,qd.ib aE,⟨S,m,K,hM,rfl⟩,(λ e=>by cases e),hb⟩
theorem exp_two (hP:dt s xb w lo rs)(og:dt s' DT w' DH qq)(hR:∀ R,R∈(pparsed s).2.2.1↔R∈(pparsed s').2.2.1)(hT:TellK s rs true zs)(I4:TellK s' qq true zs){q:B8}{t:Th}(hq:AskX s q t)(JZ:AskX s' q t){w1 w2:W8}(hE:PEOut w1 rs (aj s).2 q 50 (reaK (aj s).2 rs) w2 e):∃ (v hh:Nat) (a:O8) (n c:Nat),e=.returned (.tuple #[.agg #[.int .i64 (v:Nat),.int .i64 (hh:Nat),.slice a n c],.int .i64 0])/\∀ (GM GN:W8) (e':Ending),PEOut GM qq (aj s').2 q 50 (reaK (aj s').2 qq) GN e'->∃ (a':O8) (n' c':Nat),e'=.returned (.tuple #[.agg #[.int .i64 (v:Nat),.int .i64 (hh:Nat),.slice a' n' c'],.int .i64 0]):=by
 rcases explain_out (limit:=50) (by decide) (by decide) hP.cg hq.sZ hE with⟨S,m,hM,rfl⟩ | ⟨S,m,K,O,bs,a,c,hW,dB,rfl,_⟩
 ·cases told_over hP.cg hT hM
 ·refine⟨_,_,a,_,c,rfl,λ GM GN e' IQ=>?_⟩;rcases explain_out (limit:=50) (by decide) (by decide) og.cg JZ.sZ IQ with⟨S',m',vE,rfl⟩ | ⟨S',m',K',O',bs',a',c',xT,JR,rfl,_⟩
  ·cases told_over og.cg I4 vE
  ·rcases Mod.two hP og hR hW.mod xT.mod with⟨e,_⟩ | ⟨_,_,e1,e2,e3,_⟩
   ·cases e
   ·obtain rfl:=Option.some.inj e1;obtain rfl:=Option.some.inj e2;refine⟨a',bs'.length,c',?_⟩;rw[look_same e3 dB t]
def backL (L:Nat->KL)(n t:Nat):List KL:=((List.range n).map λ i=>L (n-1-i))++(.fact 0 1::if 0<n then [L t] else [])
def dm (L:Nat->KL)(n k:Nat):List UInt8:=(List.range k).flatMap λ i=>cH (L (n-1-i))
theorem backB_step (L:Nat->KL)(n k:Nat):dm L n (k+1)=dm L n k++cH (L (n-1-k)):=by
 unfold dm;rw[List.range_succ,List.flatMap_append];simp
theorem backB_len (L:Nat->KL)(n:Nat):∀ k,(dm L n k).length<=40*k
 | 0=>by simp[dm]
 | k+1=>by
  rw[backB_step,List.length_append];have:=backB_len L n k;have:=lineB_len (L (n-1-k));omega
variable {n:Nat} {L:Nat->KL}
theorem backL_pos (h:0<n)(t:Nat):listB (backL L n t)=dm L n n++firstB++cH (L t):=by
 unfold backL listB dm;rw[if_pos h,List.flatMap_append,List.flatMap_map,List.flatMap_cons,List.flatMap_singleton,List.append_assoc];rfl
theorem backL_zero (L:Nat->KL)(t:Nat):listB (backL L 0 t)=dm L 0 0++firstB:=by
 unfold backL listB dm;simp;rfl
variable {t:Nat}
theorem backL_mem (h:0<n->t<n)(x:KL):x∈backL L n t↔x∈KL.fact 0 1::(List.range n).map L:=by
 unfold backL
 constructor
 ·intro hx;rcases List.mem_append.1 hx with hx | hx
  ·obtain⟨i,hi,rfl⟩:=List.mem_map.1 hx;have hi:=List.mem_range.1 hi;exact List.mem_cons_of_mem _ (List.mem_map.2 ⟨n-1-i,List.mem_range.2 (by omega),rfl⟩)
  ·rcases List.mem_cons.1 hx with rfl | hx
   ·exact List.mem_cons_self
   ·split at hx
    ·rename_i h0;rw[List.mem_singleton.1 hx];exact List.mem_cons_of_mem _ (List.mem_map.2 ⟨t,List.mem_range.2 (h h0),rfl⟩)
    ·cases hx
 ·intro hx;rcases List.mem_cons.1 hx with rfl | hx
  ·exact List.mem_append_right _ List.mem_cons_self
  ·obtain⟨i,hi,rfl⟩:=List.mem_map.1 hx;have hi:=List.mem_range.1 hi;refine List.mem_append_left _ (List.mem_map.2 ⟨n-1-i,List.mem_range.2 (by omega),?_⟩);rw[show n-1-(n-1-i)=i by omega]
theorem back_text {R:Nat->Raw}(hn:n<=14)(h:0<n->t<n):TextK (bk (listB (backL (λ i=>bf (R i)) n t)))/\NmK (bk (listB (backL (λ i=>bf (R i)) n t)))/\∀ Q,Q∈(pparsed (bk (cw (λ i=>bf (R i)) n))).2.2.1↔Q∈(pparsed (bk (listB (backL (λ i=>bf (R i)) n t)))).2.2.1:=by
 have bG:backL (λ i=>bf (R i)) n t≠[]:=by unfold backL;simp
 have hl:(backL (λ i=>bf (R i)) n t).length<=18:=by
  unfold backL;rw[List.length_append,List.length_map,List.length_range,List.length_cons]
  split <;> simp <;> omega
 have bX:∀ L∈backL (λ i=>bf (R i)) n t,L.Ok:=λ L hL=>text_oks R n L ((backL_mem h L).1 hL)
 obtain⟨h1,h2⟩:=listK_of bG hl bX;refine⟨h1,h2,λ Q=>?_⟩;rw[textB_list,(listK_ok (by simp) (by simp;omega) (text_oks R n)).2,(listK_ok bG hl bX).2,List.mem_map,List.mem_map]
 constructor
 ·rintro⟨L,hL,rfl⟩;exact⟨L,(backL_mem h L).2 hL,rfl⟩
 ·rintro⟨L,hL,rfl⟩;exact⟨L,(backL_mem h L).1 hL,rfl⟩
end
section
open Go.RowKit Go.Maps
variable {s s':B8}
theorem nk {q:B8}{x:Nat}(h:AskX s q (qs x))(h':TwoP (aj s').2):AskX s' q (qs x):=by
 have:=askX_th h' x;rw[<-thX_text,<-h.text] at this;exact this
theorem all_ask2 {xb:Nat}{w:W8}{lo:Nat}{rs:List PR}(hP:dt s xb w lo rs)(h2:TwoP (aj s).2)(hn:NmK s)(rX:TwoP (aj s').2){zs:List B8}(hT:TellK s rs true zs){z:B8}(hz:z∈zs):∃ t,AskX s z t/\AskX s' z t:=by
 obtain⟨S,m,K,hM,rfl⟩:=hT;obtain⟨x,_,h⟩:=all_ask hP h2 hn hM hz;exact⟨qs x,h,nk h rX⟩
theorem ordered_any (w:W8)(la:O8)(n c:Nat)(R:Nat->Raw)(hL:fo w la n R)(dG:n<=c)(dx:c<=maxLen)(tw:Int)(uU:inR tw):Calls Tryz.prog 10 #[.slice la n c,.int .i64 tw] w (TruePost w):=by
 have HL:=hide hL;have HN:=hide (And.intro dG dx);have vz:=hide uU;unfold maxLen at dx;obtain⟨M,hM⟩:∃ M,M=min n 12:=⟨_,rfl⟩;have IW:M<=12:=by omega
 have E2:M<=n:=by omega
 have uF:min (n:Int) 12=(M:Nat):=by omega
 have HM:=hide hM;clear hL uU hM;go_enter Tryz.func10,Tryz.ntmps10;go_wp2_with fail;refine (kknown w).mono ?_;rintro e w1 ⟨rfl,aT⟩;have cR:=hide aT;have HT:=hide (ktext w1 la n c R ((ad HL).below aT) (ad HN).1 (ad HN).2 12 (by decide));rw[<-ad HM] at HT;clear aT;go_wp2_with fail;refine (ad HT).mono ?_;rintro e w2 ⟨rfl,aU⟩;have ep:=hide ((ad cR).trans (aU.mono (ad cR).size));have mV:=hide (textK_of R (n:=M) (by omega));have wW:=hide (nm_text R (n:=M) (by omega));have jF:=hide (λ (t:Nat) (ht:0<M->t<M)=>back_text (R:=R) (n:=M) (t:=t) (by omega) ht);have vA:Hid (∃ s,s=bk (cw (λ i=>bf (R i)) M)):=hide ⟨_,rfl⟩;obtain⟨s,hs⟩:=ad vA;rw[<-hs] at mV wW jF ⊢;clear hs vA aU HT cR;have p7:=hide ((ad HL).below (ad ep));have iI:=hide (show bk (dm (λ i=>bf (R i)) M (M-M))={ data:=#[] } by rw[Nat.sub_self];rfl);have zW:=hide (λ k=>(show (bk (dm (λ i=>bf (R i)) M k)).size<=40*k from by rw[txt8_size];exact backB_len _ _ k))
 have fT:=hide (λ j (hj:j+1<=M)=>(show bk (dm (λ i=>bf (R i)) M (M-(j+1)))++bk (cH (bf (R j)))=bk (dm (λ i=>bf (R i)) M (M-j)) from by
  rw[txt8_append,show M-j=M-(j+1)+1 by omega,backB_step]
  rw[show M-1-(M-(j+1))=j by omega]))
 clear HL;go_wp2_with fail
 go_loopg [7,8] M (λ gg v i wr=>∃ j:Nat,j<=M/\gg=j/\v=.string (bk (dm (λ i=>bf (R i)) M (M-j)))/\i=.int .i64 ((j:Int)-1)/\Below w2.heap.size w2 wr)
 exact⟨M,Nat.le_refl _,rfl,by rw[ad iI],by go_num,Below.refl _ _⟩
 case round=>
  obtain⟨j,hj,uo,rfl,hi,hB⟩:=hrel;have HB:=hide hB
  cases j with
  | succ j=>
   have hi:_=Value.int .i64 (j:Nat):=hi.trans (by congr 1;omega);subst hi;obtain⟨g,off,rfl,hg,c0,c1,c2,c3,hr⟩:=((ad p7).below hB).el j (by omega);have FD:(j:Int)<n:=(by omega);have HC:=hide (kline wr (R j) hr);have js:=ad zW (M-(j+1));have lj:(bk (cH (bf (R j)))).size<=40:=(by rw[txt8_size];exact lineB_len _);have gM:=hide (ad fT j (by omega));obtain⟨t1,iN⟩:∃ t1,t1=bk (dm (λ i=>bf (R i)) M (M-(j+1))):=⟨_,rfl⟩;obtain⟨t2,gK⟩:∃ t2,t2=bk (cH (bf (R j))):=⟨_,rfl⟩;have ks:Hid (Calls Tryz.prog 24 #[.agg #[.int .i64 (R j).1,.int .i64 (R j).2.1,.int .i64 (R j).2.2.1,.int .i64 (R j).2.2.2]] wr λ e w'=>e=.returned (.string t2)/\Below wr.heap.size wr w'):=(by rw[gK];exact HC);rw[<-iN] at js gM ⊢;rw[<-gK] at lj gM;have Cm:¬ (9223372036854775807<t1.size+t2.size):=(by omega);clear hB hr iN gK HC jF mV wW iI;go_wp2_with (go_at_call 24;refine (ad ks).mono ?_;rintro e w3 ⟨rfl,cE⟩;have gh:=hide cE;clear cE);go_roundg j;exact⟨j,by omega,rfl,by rw[ad gM],by go_num,(ad HB).trans ((ad gh).mono (ad HB).size)⟩;omega
  | zero=>
   have hi:_=Value.int .i64 (-1):=hi;subst hi;rw[Nat.sub_zero];have IC:=hide (ad zW M);have uP:=ad zW M
   have vh:=hide (λ (t:Nat) (h:0<M)=>(show bk (dm (λ i=>bf (R i)) M M)++{ data:=#[101,40,97,44,98,41,46,32] }++bk (cH (bf (R t)))=bk (listB (backL (λ i=>bf (R i)) M t)) from by
    rw[backL_pos h,<-txt8_append,<-txt8_append];rfl))
   have zO:=hide (λ (h:M=0)=>(show bk (dm (λ i=>bf (R i)) M M)++{ data:=#[101,40,97,44,98,41,46,32] }=bk (listB (backL (λ i=>bf (R i)) M 0)) from by
    subst h;rw[backL_zero,<-txt8_append];rfl))
   generalize bk (dm (λ i=>bf (R i)) M M)=r0 at *;have xU:¬ (9223372036854775807<r0.size+8):=(by omega);clear zW fT iI hB
   go_upto_if 42 with fail
   go_cut [7] from 20 (λ v wc=>∃ t,(0<M->t<M)/\v=.string (bk (listB (backL (λ i=>bf (R i)) M t)))/\Below w2.heap.size w2 wc)
   case first=>
    by_cases AA:0<n
    ·have ua:0<M:=(by have:=ad HM;omega);have po:(0:Int)<n:=(by omega);have JY:=(pickN_is tw (n:=M) ua).1;have H2:=hide (kpick wr tw M ua (by omega) (ad vz).1 (ad vz).2);generalize ag tw M=t at *;obtain⟨g,off,rfl,hg,c0,c1,c2,c3,hr⟩:=((ad p7).below (ad HB)).el t (by omega);have Ds:(t:Int)<n:=(by omega);have HC:=hide (kline wr (R t) hr);have lj:(bk (cH (bf (R t)))).size<=40:=(by rw[txt8_size];exact lineB_len _);have gM:=hide (ad vh t ua);obtain⟨t2,gK⟩:∃ t2,t2=bk (cH (bf (R t))):=⟨_,rfl⟩;have ks:Hid (Calls Tryz.prog 24 #[.agg #[.int .i64 (R t).1,.int .i64 (R t).2.1,.int .i64 (R t).2.2.1,.int .i64 (R t).2.2.2]] wr λ e w'=>e=.returned (.string t2)/\Below wr.heap.size wr w'):=(by rw[gK];exact HC);rw[<-gK] at lj gM;have J5:(r0++{ data:=#[101,40,97,44,98,41,46,32] }:B8).size=r0.size+8:=(by rw[ByteArray.size_append];rfl);generalize (r0++{ data:=#[101,40,97,44,98,41,46,32] }:B8)=r1 at *;have Fh:¬ (9223372036854775807<r1.size+t2.size):=(by omega);clear hr gK HC vh zO J5 jF mV wW;go_wp2_with (first | (go_at_call 25;refine (ad H2).mono ?_;rintro e w3 ⟨rfl,ir⟩;have ir:=ir.symm;subst ir) | (go_at_call 24;refine (ad ks).mono ?_;rintro e w3 ⟨rfl,cE⟩;have gh:=hide cE;clear cE));go_meet
     case rel=>exact⟨t,λ _=>JY,by rw[ad gM],(ad HB).trans ((ad gh).mono (ad HB).size)⟩
    ·have ua:M=0:=(by omega);have po:¬ (0:Int)<n:=(by omega);have gM:=hide (ad zO ua);clear vh zO jF mV wW;go_wp2_with fail;go_meet
     case rel=>exact⟨0,λ h=>by omega,by rw[ad gM],ad HB⟩
   case rest=>
    generalize wc=w3 at *;obtain⟨t,ht,rfl,cE⟩:=hcut;obtain⟨EW,IY,my⟩:=ad jF t ht;generalize bk (listB (backL (λ i=>bf (R i)) M t))=q at *;have zU:=hide EW;have lR:=hide my;have gh:=hide ((ad ep).trans (cE.mono (ad ep).size));have Ed:=hide (kload w3 s (ad mV).sz (ad mV).ok);clear EW IY my cE jF HB ep p7 vh zO IC uP xU ht uF;go_wp2_with fail;refine (ad Ed).mono ?_;rintro e w4 ⟨xb,rs,rfl,hP,bQ⟩;have HP:=hide hP;have eC:=hide ((ad gh).trans (bQ.mono (ad gh).size));have wU:=hide (kload w4 q (ad zU).sz (ad zU).ok);clear hP bQ gh Ed;go_wp2_with fail;refine (ad wU).mono ?_;rintro e w5 ⟨yb,rq,rfl,hQ,eO⟩;have Bn:=hide ((ad HP).below eO);have HQ:=hide hQ;have jn:=hide ((ad eC).trans (eO.mono (ad eC).size));have HA:=hide (kall w5 s xb _ rs (ad Bn) (ad mV).two);clear hQ eO eC wU HP;go_wp2_with fail;refine (ad HA).mono ?_;intro e w6 bh;obtain⟨a1,c1,zs,sm,rfl,Fc,sf,EP,iA⟩:=bh.pW;have BI:=hide sf;have tn:=hide EP;have HZ:=hide Fc;have Bo:=hide ((ad Bn).below iA);have z7:=hide ((ad HQ).below iA);have mU:=hide ((ad jn).trans (iA.mono (ad jn).size));have vg:=hide (kall w6 q yb _ rq (ad z7) (ad zU).two);clear bh Fc sf EP iA HA Bn HQ jn;go_wp2_with fail;refine (ad vg).mono ?_;intro e w7 bh;obtain⟨a2,c2,ys,sn,rfl,oh,lT,ER,mB⟩:=bh.pW;have sc:=tell_two (ad Bo) (ad z7) (ad lR) (ad BI) (ad tn) lT ER;obtain⟨dQ,Kt⟩:=sc;subst dQ Kt;have BJ:=hide lT;have Bp:=hide ((ad Bo).below mB);have Eo:=hide ((ad z7).below mB);have ID:=hide ((ad HZ).below mB);have IB:=hide oh;have zP:=hide ((ad mU).trans (mB.mono (ad mU).size));have kR:=(ad HZ).cap;have yo:=oh.cap;have mG:=(ad HZ).max;have C9:=oh.max;unfold maxLen at mG C9;clear bh oh lT ER mB vg Bo z7 mU HZ;go_wp2_with fail
    go_loopg [15] zs.length (λ gg iv wr=>∃ i:Nat,i<=zs.length/\gg=zs.length-i/\iv=.int .i64 (i:Nat)/\Below w7.heap.size w7 wr)
    exact⟨0,by omega,rfl,rfl,Below.refl _ _⟩
    case round=>
     obtain⟨i,Js,Fy,rfl,iD⟩:=hrel;have kr:=hide iD;have zQ:=hide ((ad zP).trans (iD.mono (ad zP).size))
     by_cases bP:i<zs.length
     ·have CV:(i:Int)<zs.length:=by omega
      cases sm with
      | false=>exact absurd bP (by rw[ad tn rfl];simp)
      | true=>
       obtain⟨x,mg,mh⟩:=all_ask2 (ad Bp) (ad mV).two (ad wW) (ad zU).two (ad BI) (List.getElem_mem bP);obtain⟨g1,rfl,eP,cB⟩:=((ad ID).below iD).at_ i bP;obtain⟨g2,rfl,dd,bZ⟩:=((ad IB).below iD).at_ i bP;have BO:=hide (show ∀ W,Below wr.heap.size wr W->W.cell? ⟨g1,i,none⟩=some (.string zs[i])/\W.cell? ⟨g2,i,none⟩=some (.string zs[i])/\g1<W.heap.size/\g2<W.heap.size from λ W h=>⟨(h.cell (p:=⟨g1,i,none⟩) eP).trans cB,(h.cell (p:=⟨g2,i,none⟩) dd).trans bZ,Nat.lt_of_lt_of_le eP h.size,Nat.lt_of_lt_of_le dd h.size⟩);generalize zs[i]=z at *;have qb:=hide mg;have oF:=hide mh;have Em:=hide (λ (W:W8) (h:Below wr.heap.size wr W)=>pent_explain ((ad Bp).below (iD.trans (h.mono iD.size))) z mg.sz 50);have Er:=hide (λ (W:W8) (h:Below wr.heap.size wr W)=>pent_explain ((ad Eo).below (iD.trans (h.mono iD.size))) z mg.sz 50);clear mg mh iD;go_wp2_with fail;refine (ad Em wr B9).mono ?_;rintro e w8 ⟨ho,ue⟩;obtain⟨v,hh,a,n1,xB,rfl,sE⟩:=exp_two (ad Bp) (ad Eo) (ad lR) (ad BI) (ad BJ) (ad qb) (ad oF) ho;have oC:=hide sE;have tX:=(Below.refl w8.heap.size w8).alloc L9 (.cells #[.int .i64 (v:Nat),.int .i64 (hh:Nat),.slice a n1 xB] 49);have hY:=heap_alloc_new w8 (.cells #[.int .i64 (v:Nat),.int .i64 (hh:Nat),.slice a n1 xB] 49);have hsz:(w8.alloc (.cells #[.int .i64 (v:Nat),.int .i64 (hh:Nat),.slice a n1 xB] 49)).heap.size=w8.heap.size+1:=(by simp);have fu:=ue.trans (tX.mono ue.size);have Ep:=hide (ad Er _ fu);obtain⟨y1,y2,y3,y4⟩:=ad BO _ ue
       have vX:=hide (show ∀ w9,Below (w8.alloc (.cells #[.int .i64 (v:Nat),.int .i64 (hh:Nat),.slice a n1 xB] 49)).heap.size (w8.alloc (.cells #[.int .i64 (v:Nat),.int .i64 (hh:Nat),.slice a n1 xB] 49)) w9->Below wr.heap.size wr w9/\w9.cell? ⟨w8.heap.size,0,none⟩=some (.int .i64 (v:Nat))/\w9.cell? ⟨w8.heap.size,1,none⟩=some (.int .i64 (hh:Nat))/\w8.heap.size<w9.heap.size from λ w9 h9=>by
        have h8:=(h9.block w8.heap.size (by rw[hsz];omega)).trans hY;have IN:=h9.size;rw[hsz] at IN
        exact⟨fu.trans (h9.mono fu.size),by simp[World.cell?,h8],by simp[World.cell?,h8],by omega⟩)
       clear sE ho ue tX hY hsz fu cB bZ eP dd;go_wp2_with fail;refine (ad Ep).mono ?_;rintro e w9 ⟨ho,Fj⟩;obtain⟨a',n',c',rfl⟩:=ad oC _ _ _ ho;obtain⟨qS,u0,u1,u2⟩:=ad vX w9 Fj;obtain⟨y1,y2,y3,y4⟩:=ad BO w9 qS;have Ht:=hide ((ad kr).trans ((qS.alloc qS.size (.cells #[.int .i64 (v:Nat),.int .i64 (hh:Nat),.slice a' n' c'] 49)).mono (ad kr).size));clear ho Fj qS vX Ep oC BO Em Er;generalize w8.heap.size=b8 at *;have htt:(z.toList==z.toList)=true:=aW.2 rfl;go_wp2_with fail;go_quiet (fail);go_wp2_with fail;go_roundg (zs.length-(i+1));exact⟨i+1,by omega,rfl,by go_num,below_drewN (ad Ht) _⟩;omega
     ·have CV:¬ (i:Int)<zs.length:=(by omega);clear iD;go_wp2_with fail;go_ret;exact⟨rfl,ad zQ⟩
end
end Go.Proofs.YtldkpahaocjdpaaGreat
