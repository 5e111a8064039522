/-
  Plain: the words of a text that was read: none is empty or long, none has a bracket or a comma in it.
-/
import Derived.Test.YtldkpahaocjdpaaGreatD25
set_option maxHeartbeats 16000000
set_option maxRecDepth 1000000
namespace Go.Proofs.YtldkpahaocjdpaaGreat
section
theorem z7s (p:Int->Bool)(s:B8)(i:Nat):∀ j,i<=j->j<skip p s i->∃ h:j<s.size,p s[j].toNat=true:=by
 fun_induction skip p s i with
 | case1 i h hp ih=>
  intro j hj bP;rcases Nat.eq_or_lt_of_le hj with rfl | hj
  ·exact⟨h,hp⟩
  ·exact ih j hj bP
 | case2 i h hp=>intro j hj bP;omega
 | case3 i h=>intro j hj bP;omega
structure aM (x:B8):Prop where
 ne:0<x.size
 le:x.size<=8
 no:∀ c∈x.data.toList,c≠40/\c≠41/\c≠44
variable {s:B8}
theorem zpa {a b:Nat}(hb:b<=s.size){c:UInt8}(h:c∈(s.extract a b).data.toList):∃ (j:Nat) (hj:j<s.size),a<=j/\j<b/\s[j]=c:=by
 rw[Array.mem_toList_iff,Array.mem_iff_getElem] at h;obtain⟨i,hi,rfl⟩:=h;have hsz:(s.extract a b).size=b-a:=by rw[ByteArray.size_extract];omega
 have Jr:i<(s.extract a b).size:=hi;refine⟨a+i,by omega,by omega,by omega,?_⟩;have:=ByteArray.getElem_extract Jr;rw[<-this];rfl
theorem z4r {p:Int->Bool}{k:Nat}(hp:∀ c:UInt8,p c.toNat=true->c≠40/\c≠41/\c≠44)(hk:k<=s.size)(h:k<skip p s k)(h8:skip p s k-k<=8):aM (s.extract k (skip p s k)):=by
 have hle:=zfh p s k hk;refine⟨?_,?_,λ c hc=>?_⟩
 ·rw[ByteArray.size_extract];omega
 ·rw[ByteArray.size_extract];omega
 ·obtain⟨j,hj,h1,h2,rfl⟩:=zpa hle hc;obtain⟨_,h3⟩:=z7s p s k j h1 h2;exact hp _ h3
theorem yc4 (c:UInt8)(h:jJ c.toNat=true):c≠40/\c≠41/\c≠44:=by
 refine⟨?_,?_,?_⟩ <;> (rintro rfl;revert h;decide)
theorem yak (c:UInt8)(h:yZ c.toNat=true):c≠40/\c≠41/\c≠44:=by
 refine⟨?_,?_,?_⟩ <;> (rintro rfl;revert h;decide)
variable {p:Nat}
theorem z8h (h:(tok s p).kind=110\/(tok s p).kind=118):aM (tok s p).text:=by
 revert h
 unfold tok;generalize skip yH s p=k;unfold z4c;intro h
 by_cases c0:s.size<=k
 ·rw[if_pos c0] at h;rcases h with h | h <;> cases h
 rw[if_neg c0] at h ⊢
 by_cases c1:k<skip jJ s k
 ·rw[if_pos c1] at h ⊢
  by_cases c2:(s.extract k (skip jJ s k)).toList=[110,111,116]
  ·rw[if_pos c2] at h;rcases h with h | h <;> cases h
  rw[if_neg c2] at h ⊢
  by_cases c3:skip jJ s k-k<=8
  ·rw[if_pos c3];exact z4r yc4 (by omega) c1 c3
  ·rw[if_neg c3] at h;rcases h with h | h <;> cases h
 rw[if_neg c1] at h ⊢
 by_cases c4:k<skip yZ s k
 ·rw[if_pos c4] at h ⊢
  by_cases c3:skip yZ s k-k<=8
  ·rw[if_pos c3];exact z4r yak (by omega) c4 c3
  ·rw[if_neg c3] at h;rcases h with h | h <;> cases h
 rw[if_neg c4] at h ⊢
 by_cases c5:zai s k=0
 ·rw[if_pos c5] at h;rcases h with h | h <;> cases h
 rw[if_neg c5] at h
 by_cases c6:zai s k=2
 ·rw[if_pos c6] at h;rcases h with h | h <;> cases h
 ·rw[if_neg c6] at h;rcases h with h | h <;> cases h
theorem zi4 (h:(zD s p).1=2\/(zD s p).1=3):aM (yT s p):=by
 by_cases hp:p<=s.size
 ·have K:=ze0 s p hp;rw[K.k2,K.k3] at h;rw[K.word h];exact z8h h
 ·exfalso
  have e:skip yH s p=p:=zd6 _ _ _ (by omega);have z:(s.extract p s.size).size=0:=by rw[ByteArray.size_extract];omega
  have:(zD s p).1=0:=by unfold zD;rw[e];simp only;unfold qL;rw[dif_neg (by omega)]
  omega
structure zn9 (pd:B8)(ts:List (Bool × B8)):Prop where
 pd:aM pd
 ft:ts.length<=4
 ts:∀ t∈ts,aM t.2
theorem zuh (s:B8)(f:Nat):∀ {p:Nat} {l:List (Bool × B8)} {pl:Nat->Nat},(∀ t∈l,aM t.2)->∀ t∈(zR s f p l pl).2.2.1,aM t.2:=by
 induction f with
 | zero=>intro p l pl h;exact h
 | succ f ih=>
  intro p l pl h;rw[zR]
  split
  ·rename_i hk;have h':∀ t∈l++[((zD s p).1==3,yT s p)],aM t.2:=λ t ht=>by
    rcases List.mem_append.1 ht with ht | ht
    ·exact h t ht
    ·rw[List.mem_singleton.1 ht];exact zi4 hk
   split
   ·exact ih h'
   ·exact h'
  ·exact h
theorem Mk {q:Nat}{pd:B8}{ts:List (Bool × B8)}{pl:Nat->Nat}(h:yV s p=.yes q pd ts pl):zn9 pd ts:=by
 have h4:=(zkd h).2;unfold yV at h
 by_cases c1:(zD s p).1=2
 ·rw[if_pos c1] at h
  by_cases c2:(zD s (zD s p).2.2).1=5
  ·rw[if_pos c2] at h
   by_cases c3:(zR s 4 (zD s (zD s p).2.2).2.2 [] (λ _=>0)).1=true
   ·rw[if_pos c3] at h;injection h with h1 h2 h3 h4
    subst h2 h3;exact⟨zi4 (.inl c1),h4,zuh s 4 (by simp)⟩
   ·rw[if_neg c3] at h;cases h
  ·rw[if_neg c2] at h;injection h with h1 h2 h3 h4
   subst h2 h3;exact⟨zi4 (.inl c1),h4,by simp⟩
 ·rw[if_neg c1] at h;cases h
def z5e (R:yG):Prop:=zn9 R.pd R.ts/\∀ l∈R.body,zn9 l.pd l.ts
theorem zyk (s:B8)(num f:Nat):∀ {p:Nat} {l:List yX} {ms:List yU},(∀ x∈l,zn9 x.pd x.ts)->∀ x∈(vB s num f p l ms).2.2.1,zn9 x.pd x.ts:=by
 induction f with
 | zero=>intro p l ms hl;exact hl
 | succ f ih=>
  intro p l ms hl;rw[vB]
  cases hr:yV s (yB s p 4) with
  | no q=>exact hl
  | yes q pd ts pl=>
   have mE:∀ x∈l++[dM s p pd ts],zn9 x.pd x.ts:=λ x hx=>by
    rcases List.mem_append.1 hx with hx | hx
    ·exact hl x hx
    ·simp at hx;subst hx;exact Mk hr
   simp only
   split
   ·exact ih (p:=(zD s q).2.2) mE
   ·exact mE
theorem zyq (s:B8)(num p:Nat)(ms:List yU)(h:(xG s num p ms).1=true):z5e (xG s num p ms).2.2.1:=by
 unfold xG at h ⊢
 cases hr:yV s p with
 | no q=>rw[hr] at h;cases h
 | yes q pd ts pl=>
  rw[hr] at h;simp only at h ⊢
  split
  ·exact⟨Mk hr,by simp⟩
  ·split
   ·exact⟨Mk hr,zyk s num 3 (p:=(zD s q).2.2) (l:=[]) (by simp)⟩
   ·exact⟨Mk hr,by simp⟩
theorem zuf (s:B8)(f:Nat):∀ {p:Nat} {rs:List yG} {ms:List yU},(∀ R∈rs,z5e R)->∀ R∈(vG s f p rs ms).2.2.1,z5e R:=by
 induction f with
 | zero=>intro p rs ms hr;exact hr
 | succ f ih=>
  intro p rs ms hr;rw[vG]
  split
  ·exact hr
  ·split
   ·exact hr
   ·split
    ·rename_i hy;refine ih (λ R hR=>?_);rcases List.mem_append.1 hR with hR | hR
     ·exact hr R hR
     ·simp at hR;subst hR;exact zyq s _ _ _ hy
    ·exact hr
theorem zsc (s:B8):∀ R∈(zO s).2.2.1,z5e R:=zuf s 31 (by simp)
end
section
open Go.RowKit Go.Maps
inductive qD (rs:List PR)(S:B8->Nat)(limit count:Nat):Nat->List (Th × Nat)->Option (List (Th × Nat))->Prop
 | ends {s:Nat} {K:List (Th × Nat)}:count<=s->qD rs S limit count s K (some K)
 | fK {s:Nat} {K:List (Th × Nat)}:s<count->za0 (rs.filter (qK S s)) limit 1 K none->qD rs S limit count s K none
 | next {s:Nat} {K K':List (Th × Nat)} {r:Option (List (Th × Nat))}:s<count->za0 (rs.filter (qK S s)) limit 1 K (some K')->qD rs S limit count (s+1) K' r->qD rs S limit count s K r
theorem eT.filter {rs:List PR}{TI:Th->Prop}(h:eT rs TI)(f:PR->Bool):eT (rs.filter f) TI:=λ K hK r hr=>h K hK r (List.mem_filter.1 hr).1
structure z8r (w:W8)(kb:Nat)(rs:List PR)(S:B8->Nat)(limit count:Nat)(TI:Th->Prop)(s:Nat)(K:List (Th × Nat))(wr:W8):Prop where
 m:jA wr kb K
 ti:∀ p∈K,TI p.1
 len:K.length<=limit
 k:Below w.heap.size w wr
 rel:∀ r,qD rs S limit count s K r->qD rs S limit count 0 [] r
def z43 (w:W8)(rs:List PR)(ps:P9)(S:B8->Nat)(limit:Nat)(TI:Th->Prop)(en:Ending)(w':W8):Prop:=
 ∃ m r,jS ps S m/\qD rs S limit m 0 [] r/\Below w.heap.size w w'/\(r=none->en=.returned (.tuple #[.map none,.bool false])) /\
  ∀ K,r=some K->∃ kb,en=.returned (.tuple #[.map (some kb),.bool true])/\w.heap.size<=kb/\jA w' kb K/\K.length<=limit/\∀ p∈K,TI p.1
theorem zvy (w:W8)(base:Nat)(ar:O8)(cr:Nat)(rs:List PR)(tb n:Nat)(ps:P9)(S:B8->Nat)(limit:Nat)(TI:Th->Prop)(h:aD w base (.slice ar rs.length cr) rs)(hb:base<=w.heap.size)(ht:qS Tryz.prog 9 w tb n (stV ps S))(hS:∀ k,(zZ ps k).isSome=true->S k<=1000000)(iG:rs.length<=1000)(eN:∀ r∈rs,r.R.pd.size<=800/\(zZ ps r.R.pd).isSome=true)(oX:eT rs TI)(hl:limit<=50):
  Calls Tryz.prog 38 #[.slice ar rs.length cr,.map (some tb),.int .i64 (limit:Nat)] w (z43 w rs ps S limit TI):=by
 have H:=zC h;have HT:=zC ht;have ie:=zC eN;have pZ:=zC oX;have fZ:=ht.lt;have k0:Below w.heap.size w (w.alloc (.map #[] 0)):=B9.alloc L9 _;have HC:=zC (zq6 (w.alloc (.map #[] 0)) tb n ps S (ht.block (k0.block tb fZ)) hS);have cq:=zC k0;have bD:=@run_makeMap Tryz.prog;have vx:=zC hS;clear h ht eN oX hS k0;go_enter Tryz.func38,Tryz.ntmps38;go_wp2_with (go_at_call 59;refine (zA HC).mono ?_;rintro en w1 ⟨m,rfl,eM,aT⟩;have fw:=zC eM;have cR:=zC aT;clear eM aT);have ym:Below w.heap.size w w1:=(zA cq).trans ((zA cR).mono (by simp));have fa:jA w1 w.heap.size []:=(jA.made w).block ((zA cR).block _ (by simp));have H0:=zC (show z8r w w.heap.size rs S limit m TI 0 [] w1 from ⟨fa,by simp,by simp,ym,λ _ h=>h⟩);have mG:m<=1000001:=by
  rcases (zA fw).2 with h | ⟨j,hj,h⟩
  ·omega
  ·have:=zA vx j hj;omega
 clear ym fa bD
 go_loopg [13] m (λ gg i wr=>∃ (s:Nat) (K:List (Th × Nat)),s<=m/\gg=m-s/\i=.int .i64 (s:Nat)/\z8r w w.heap.size rs S limit m TI s K wr)
 exact⟨0,[],Nat.zero_le _,rfl,rfl,zA H0⟩
 case round=>
  clear H0;obtain⟨s,K,hs,fM,rfl,ak⟩:=hrel;have bt:=zC ak;clear ak
  by_cases aN:s<m
  ·have ak:=zA bt;have hsi:(s:Int)<m:=(by omega);have aE:aD wr base (.slice ar rs.length cr) rs:=⟨zG (zA H).row ak.k (λ g e=>((zA H).row.lt g e).2),λ r hr=>⟨zG ((zA H).each r hr).hd ak.k (λ g e=>(((zA H).each r hr).hd.lt g e).2),((zA H).each r hr).bo.below ak.k,((zA H).each r hr).eq⟩⟩;have HO:=zC (z2f wr base ar cr rs tb n ps S s aE (Nat.le_trans hb ak.k.size) ((zA HT).block (ak.k.block tb fZ)) iG (zA ie));have HM:=zC ak.m;have wz:=zC (λ (w2:W8) (a:O8) (c:Nat) (aU:Below wr.heap.size wr w2) (fc:aD w2 base (.slice a (rs.filter (qK S s)).length c) (rs.filter (qK S s)))=>z0o w2 w.heap.size base a c (rs.filter (qK S s)) limit TI K ((zA bt).m.block (aU.block _ (zA bt).m.lt)) fc ((zA pZ).filter _) (zA bt).ti (zA bt).len hl);clear ak aE;go_wp2_with fail;refine (zA HO).mono ?_;rintro en w2 ⟨a2,c2,rfl,aU,fc⟩;have ks:=zC (zA wz w2 a2 c2 aU fc);have ep:=zC aU;clear aU fc wz;go_wp2_with fail;refine (zA ks).mono ?_;rintro en w3 ⟨r,FV,rfl,fB,ET⟩;have qy:=zC fB;have MA:=zC FV;have Hd:=zC ET;have cE:Below w.heap.size w w3:=by
    have ak:=zA bt;have aU:=zA ep;have h2:Below w.heap.size w w2:=ak.k.trans (aU.mono ak.k.size);exact⟨fB.os.trans h2.os,fB.tape.trans h2.tape,fB.output.trans h2.output,Nat.le_trans h2.size fB.size,λ i hi=>(fB.block i (by have:=h2.size;omega) (by simp;omega)).trans (h2.block i hi)⟩
   have gh:=zC cE;clear fB FV ET cE
   cases hr:r with
   | none=>
    rw[hr] at MA;go_wp2_with fail
    go_ret2
    exact⟨m,none,zA fw,(zA bt).rel _ (.fK aN (zA MA)),zA gh,λ _=>rfl,λ K e=>by cases e⟩
   | some K'=>
    obtain⟨ey,ki,sr⟩:=zA Hd K' hr;rw[hr] at MA;have mW:=zC ey;have tO:=zC ki;clear ey ki;go_wp2_with fail;go_roundg (m-(s+1));exact⟨s+1,K',by omega,rfl,by go_num,zA mW,zA tO,sr,zA gh,λ r h=>(zA bt).rel r (.next aN (zA MA) h)⟩;omega
  ·go_wp2_with fail
   go_ret2
   have ak:=zA bt;exact⟨m,some K,zA fw,ak.rel _ (.ends (by omega)),ak.k,(λ e=>by cases e),λ K2 e=>by cases e;exact⟨_,rfl,Nat.le_refl _,ak.m,ak.len,ak.ti⟩⟩
end
section
def pa (A:yR):yY:=⟨A.pred,A.aS.map aR⟩
def thA (A:yR):Th:=(A.pred,A.aS.map (·.text))
def z8x (c:UInt8):Prop:=c=40\/c=41\/c=44
theorem zi6:∀ {a b x y:List UInt8},(∀ c∈a,¬ z8x c)->(∀ c∈b,¬ z8x c)->(∀ c,x.head?=some c->z8x c)->(∀ c,y.head?=some c->z8x c)->a++x=b++y->a=b/\x=y
 | [],[],_,_,_,_,_,_,h=>⟨rfl,h⟩
 | [],c::b,x,y,_,hb,hx,_,h=>by
  rw[List.nil_append,List.cons_append] at h;exact absurd (hx c (by rw[h];rfl)) (hb c List.mem_cons_self)
 | c::a,[],x,y,ha,_,_,hy,h=>by
  rw[List.nil_append,List.cons_append] at h;exact absurd (hy c (by rw[<-h];rfl)) (ha c List.mem_cons_self)
 | c::a,d::b,x,y,ha,hb,hx,hy,h=>by
  rw[List.cons_append,List.cons_append] at h;injection h with h1 h2
  obtain⟨e1,e2⟩:=zi6 (λ c hc=>ha c (List.mem_cons_of_mem _ hc)) (λ c hc=>hb c (List.mem_cons_of_mem _ hc)) hx hy h2;exact⟨by rw[h1,e1],e2⟩
variable {x:B8}
theorem aM.sep (h:aM x):∀ c∈x.data.toList,¬ z8x c:=λ c hc=>by
 have:=h.no c hc;unfold z8x;simp[this]
theorem zvo {y:B8}(h:x.data.toList=y.data.toList):x=y:=by
 cases x;cases y
 simp only at h;rw[Array.toList_inj.1 h]
theorem zmb (ts:List (Bool × B8))(i:Nat):∀ c,(vT ts i++[41]).head?=some c->z8x c:=by
 intro c h
 cases ts with
 | nil=>simp[vT] at h;exact .inr (.inl h.symm)
 | cons t r=>
  rw[vT] at h;simp only[List.cons_append,List.head?_cons,Option.some.injEq] at h;rw[<-h]
  split
  ·exact .inl rfl
  ·exact .inr (.inr rfl)
theorem zsz:∀ (ts us:List (Bool × B8)) (i:Nat),(∀ t∈ts,aM t.2)->(∀ t∈us,aM t.2)->vT ts i++[41]=vT us i++[41]->ts.map (·.2)=us.map (·.2)
 | [],[],_,_,_,_=>rfl
 | [],u::us,i,_,_,h=>by
  rw[vT,vT,List.cons_append] at h;simp only[List.nil_append] at h;injection h with h1 _
  split at h1 <;> exact absurd h1 (by decide)
 | t::ts,[],i,_,_,h=>by
  rw[vT,vT,List.cons_append] at h;simp only[List.nil_append] at h;injection h with h1 _
  split at h1 <;> exact absurd h1 (by decide)
 | t::ts,u::us,i,ht,hu,h=>by
  rw[vT,vT,List.cons_append,List.cons_append] at h;injection h with _ h2
  rw[List.append_assoc,List.append_assoc] at h2;obtain⟨e1,e2⟩:=zi6 (ht t List.mem_cons_self).sep (hu u List.mem_cons_self).sep (zmb _ _) (zmb _ _) h2;rw[List.map_cons,List.map_cons,zvo e1,zsz ts us (i+1) (λ x hx=>ht x (List.mem_cons_of_mem _ hx)) (λ x hx=>hu x (List.mem_cons_of_mem _ hx)) e2]
structure tQ (t:Th):Prop where
 pd:aM t.1
 ts:∀ x∈t.2,aM x
theorem zmc (t:Th):(xE t).map (·.2)=t.2:=by unfold xE;simp[List.map_map,Function.comp_def]
theorem tQ.aS {t:Th}(h:tQ t):∀ x∈xE t,aM x.2:=by
 intro x hx;obtain⟨y,hy,rfl⟩:=List.mem_map.1 hx;exact h.ts y hy
theorem zwv (ts:List (Bool × B8)):∀ c,(vT ts 0++if ts.length=0 then [] else [41]).head?=some c->z8x c:=by
 intro c h
 cases ts with
 | nil=>simp[vT] at h
 | cons t r=>
  rw[if_neg (by simp)] at h;exact zmb _ _ c h
theorem zjb {t u:Th}(ht:tQ t)(hu:tQ u)(h:yI t=yI u):t=u:=by
 have h':zbv t.1 (xE t)=zbv u.1 (xE u):=by
  have:=congrArg (λ x:B8=>x.data.toList) h;simpa[yI] using this
 unfold zbv at h';obtain⟨e1,e2⟩:=zi6 ht.pd.sep hu.pd.sep (zwv _) (zwv _) h';have e3:(xE t).map (·.2)=(xE u).map (·.2):=by
  cases hT:xE t with
  | nil=>
   cases hU:xE u with
   | nil=>rfl
   | cons x r=>rw[hT,hU] at e2;simp[vT] at e2
  | cons y q=>
   cases hU:xE u with
   | nil=>rw[hT,hU] at e2;simp[vT] at e2
   | cons x r=>
    rw[hT,hU,if_neg (by simp),if_neg (by simp)] at e2;have h1:=ht.aS;have h2:=hu.aS;rw[hT] at h1;rw[hU] at h2;exact zsz _ _ 0 h1 h2 e2
 rw[zmc,zmc] at e3;exact Prod.ext (zvo e1) e3
def ew (e:zX):Prop:=∀ p∈e,aM p.2
variable {v:B8} {e:zX}
theorem z63 (h:ew e)(hx:pAt e v=some x):aM x:=by
 induction e with
 | nil=>cases hx
 | cons p r ih=>
  rw[pAt] at hx
  split at hx
  ·cases hx;exact h p List.mem_cons_self
  ·exact ih (λ q hq=>h q (List.mem_cons_of_mem _ hq)) hx
theorem ew.snoc (h:ew e)(hx:aM x):ew (e++[(v,x)]):=by
 intro p hp;rcases List.mem_append.1 hp with hp | hp
 ·exact h p hp
 ·rw[List.mem_singleton.1 hp];exact hx
structure zn8 (ps:P9)(a:yY):Prop where
 w:zn9 a.p a.ts
 num:zZ ps a.p=some a.ts.length
structure eE (ps:P9)(t:Th):Prop where
 w:tQ t
 num:zZ ps t.1=some t.2.length
 ft:t.2.length<=4
end
section
open Go.RowKit Go.Maps
def zb6 (ps:P9)(A:yY):Bool:=match zZ ps A.p with
 | some n=>decide (n=A.ts.length)
 | none=>true
theorem z3z (w:W8)(tb n:Nat)(ps:P9)(S:B8->Nat)(A:yY)(a:O8)(c:Nat)(h:qS Tryz.prog 9 w tb n (stV ps S))(hp:A.p.size<=maxLen):
  Calls Tryz.prog 58 #[.map (some tb),.agg #[.string A.p,.slice a A.ts.length c]] w λ en w'=>en=.returned (.bool (zb6 ps A))/\Below w.heap.size w w':=by
 have k0:Below w.heap.size w (w.alloc (.cells #[.string A.p,.slice a A.ts.length c] 79)):=B9.alloc L9 _;have hm:=h.block (k0.block tb h.lt);have HK:=zC k0;clear h
 cases hn:zZ ps A.p with
 | none=>
  have HS:=zC (show zb6 ps A=true by unfold zb6;rw[hn]);have hu:(stV ps S A.p).getD (.agg #[.string { data:=#[] },.int .i64 0,.int .i64 0])=.agg #[.string { data:=#[] },.int .i64 0,.int .i64 0]:=by unfold stV;rw[hn];rfl
  have hc:(stV ps S A.p).isSome=false:=by unfold stV;rw[hn];rfl
  clear k0;go_enter Tryz.func58,Tryz.ntmps58;go_wp2_with (at_lookup;refine vE _ rfl _ _ 73 rfl 9 185 Tryz.underlying9 Tryz.underlying73 (Tryz.zeroValue185 _) tb n (stV ps S) rfl hm A.p rfl hp _ hu _ hc ?_);go_ret;exact⟨by rw[zA HS];rfl,(zA HK).alloc (zA HK).size _⟩
 | some m=>
  have hu:(stV ps S A.p).getD (.agg #[.string { data:=#[] },.int .i64 0,.int .i64 0])=.agg #[.string A.p,.int .i64 (S A.p),.int .i64 m]:=by unfold stV;rw[hn];rfl
  have hc:(stV ps S A.p).isSome=true:=by unfold stV;rw[hn];rfl
  have HS:=zC (show zb6 ps A=((m:Int)==(A.ts.length:Int)) by
   unfold zb6;rw[hn]
   by_cases e:m=A.ts.length
   ·subst e;simp
   ·have:¬ ((m:Int)=A.ts.length):=by omega
    simp[e,this])
  clear k0;go_enter Tryz.func58,Tryz.ntmps58;go_wp2_with (at_lookup;refine vE _ rfl _ _ 73 rfl 9 185 Tryz.underlying9 Tryz.underlying73 (Tryz.zeroValue185 _) tb n (stV ps S) rfl hm A.p rfl hp _ hu _ hc ?_);go_ret;exact⟨by rw[zA HS];rfl,(zA HK).alloc (zA HK).size _⟩
def qX (l:Int):Bool:=decide (1<=l)&&decide (l<=50)
theorem zrq (w:W8)(l:Int):Calls Tryz.prog 34 #[.int .i64 l] w λ en w'=>en=.returned (.bool (qX l))/\w'=w:=by
 by_cases h1:1<=l
 ·go_enter Tryz.func34,Tryz.ntmps34;go_wp2_with fail;go_ret;exact⟨by unfold qX;simp[h1],rfl⟩
 ·go_enter Tryz.func34,Tryz.ntmps34;go_wp2_with fail;go_ret;exact⟨by (unfold qX;simp;omega),rfl⟩
end
section
open Go.RowKit
def zc3 (s:B8):Option yY:=
 match yV s 0 with
 | .no _=>none
 | .yes p pd ts _=>if (zD s p).1=0 then some ⟨pd,ts⟩ else none
def zqf (w:W8)(r:Option yY)(e:Ending)(w':W8):Prop:=
 Below w.heap.size w w'/\match r with
 | none=>e=.returned (.tuple #[.agg #[.string { data:=#[] },.slice none 0 0],.bool false])
 | some A=>∃ a c,e=.returned (.tuple #[.agg #[.string A.p,.slice a A.ts.length c],.bool true])/\w'.ownsRow w.heap.size 191 1 (.slice a A.ts.length c) A.ts.length (A.ts.map zaz)
theorem z91 {w w1:W8}{s:B8}(aT:Below (w.alloc (Obj.cells #[.string { data:=#[] },.slice none 0 0] 79)).heap.size (w.alloc (Obj.cells #[.string { data:=#[] },.slice none 0 0] 79)) w1):
  dN (w1.alloc (Obj.cells #[.string s,.int .i64 (zD s 0).1,.int .i64 (zD s 0).2.1,.int .i64 (zD s 0).2.2,.int .i64 0,.slice none 0 0] 163)) w1.heap.size s 0 0 (.slice none 0 0):=by
 have hz:=aT.size;simp at hz;refine⟨by simp,?_,?_,?_,?_,?_,?_,?_⟩
 all_goals first | (rw[World.cell?_alloc_at _ _ _ _ rfl];rfl) | (intro o;rw[World.frozen?_alloc_at _ _ _ _ rfl];done) | skip
theorem z7i (w:W8)(s:B8)(hs:s.size<=2000000):
  Calls Tryz.prog 57 #[.string s] w (zqf w (zc3 s)):=by
 have dQ:s.size<=maxLen:=by unfold maxLen;omega
 go_enter Tryz.func57,Tryz.ntmps57;go_wp2_with fail;refine (zl5 s 0 (Nat.zero_le _) dQ _).mono ?_;rintro e w1 ⟨rfl,aT⟩;have cB:=aT.size;have dj:=z91 (s:=s) aT;have fY:w1.heap[w.heap.size]?=some (.cells #[.string { data:=#[] },.slice none 0 0] 79 (0,0)):=by rw[aT.block _ (by simp)];exact heap_alloc_new w _
 have fA:Below w.heap.size w w1:=(B9.alloc L9 _).trans (aT.mono (by simp));have HB:=zC fA;have HR:=zC fY;have fT:=zC dj;clear aT fA fY;simp at cB;obtain⟨bP,c0,c1,c2,c3,c4,c5,fz⟩:=dj;clear fz;go_wp2_with fail;refine (zlr _ w1.heap.size s 0 0 (.slice none 0 0) false (zD s 0).2.1 [] (zA fT) ⟨World.ownsRow_nil _ _ _ _,by simp⟩ (by simp) (Nat.zero_le _) hs).mono ?_;intro e w2 hp;clear bP c0 c1 c2 c3 c4 c5;have uf:=(zA HB).alloc (B:=w.heap.size) (by omega) (Obj.cells #[.string s,.int .i64 (zD s 0).1,.int .i64 (zD s 0).2.1,.int .i64 (zD s 0).2.2,.int .i64 0,.slice none 0 0] 163);have gx:=(Below.heap_alloc w1 (Obj.cells #[.string s,.int .i64 (zD s 0).1,.int .i64 (zD s 0).2.1,.int .i64 (zD s 0).2.2,.int .i64 0,.slice none 0 0] 163) w.heap.size (by omega)).trans (zA HR)
 cases hP:yV s 0 with
 | no p=>
  rw[hP] at hp;obtain⟨rfl,cN,fc⟩:=hp;have bZ:=cN.size;simp at bZ;have HN:=zC (show zc3 s=none by unfold zc3;rw[hP]);have aU:=yE uf cN (by simp;omega) (by simp;omega);have nH:=(cN.block w.heap.size (by simp;omega) (by simp;omega)).trans gx;have iF:=(Below.heap_alloc w2 (Obj.cells #[.string { data:=#[] },.slice none 0 0] 79) w.heap.size (by omega)).trans nH;obtain⟨r0,f0⟩:=zB iF 0;obtain⟨r1,f1⟩:=zB iF 1;have ep:=zC aU;clear cN fc uf gx aU nH hP fT HR HB iF;go_wp2_with fail;obtain⟨q0,q1⟩:=zj1 r0 r1 (.string { data:=#[] }) (.slice none 0 0);refine bodyPost_ret (v:=.tuple #[.agg #[.string { data:=#[] },.slice none 0 0],.bool false]) (by simp[results,Tryz.results57,go_sem,q0,q1]) rfl ?_;rw[zA HN];exact⟨yE ((zA ep).alloc (by omega) _) (za8 _ w.heap.size _ _) (by simp;omega) (by simp),rfl⟩
 | yes p pd ts pl=>
  rw[hP] at hp;obtain⟨tv,gm,rfl,cN,fc,eG,gK,Jf⟩:=hp;obtain⟨ta,tc,rfl⟩:=zE gK;have bZ:=cN.size;simp at bZ;have aU:=yE uf cN (by simp;omega) (by simp[Value.ownBlock];omega);have nH:=(cN.block w.heap.size (by simp;omega) (by simp[Value.ownBlock];omega)).trans gx;obtain⟨bP,c0,c1,c2,c3,c4,c5,fz⟩:=fc.kept ((yC.refl [] w2).alloc (Obj.cells #[.string pd,.slice ta ts.length tc] 79)) (by simp);have ki:=zI (base':=w.heap.size) gK (by simp;omega);have bU:∀ g,(Value.slice ta ts.length tc).ownBlock=some g->g≠w.heap.size:=λ g hg e=>by
   have:=vH gK (e:=79) (by decide) g (by simpa using hg);subst e;exact this _ _ nH
  have iF:=(Below.heap_alloc w2 (Obj.cells #[.string pd,.slice ta ts.length tc] 79) w.heap.size (by omega)).trans nH;obtain⟨r0,f0⟩:=zB iF 0;obtain⟨r1,f1⟩:=zB iF 1;have ep:=zC aU;have HT:=zC ki;have tF:=zC bU;clear cN fc uf gx aU nH fT HR HB eG gK Jf fz ki bU iF
  by_cases h0:(zD s p).1=0
  ·have HN:=zC (show zc3 s=some ⟨pd,ts⟩ by unfold zc3;rw[hP];exact if_pos h0);have BY:((zD s p).1 != 0)=false:=(by simp[h0]);clear h0 hP;go_wp2_with fail;obtain⟨q0,q1⟩:=zj1 r0 r1 (.string pd) (.slice ta ts.length tc);refine bodyPost_ret (v:=.tuple #[.agg #[.string pd,.slice ta ts.length tc],.bool true]) (by simp[results,Tryz.results57,go_sem,q0,q1]) rfl ?_;rw[zA HN];exact⟨yE ((zA ep).alloc (by omega) _) (za8 _ w.heap.size _ _) (by simp;omega) (by simp),ta,tc,rfl,jL ((zA HT).alloc _) (za8 _ w.heap.size _ _) (zA tF)⟩
  ·have HN:=zC (show zc3 s=none by unfold zc3;rw[hP];exact if_neg h0);have BY:((zD s p).1 != 0)=true:=(by simp[h0]);clear h0 hP;go_wp2_with fail;obtain⟨q0,q1⟩:=zj1 r0 r1 (.string { data:=#[] }) (.slice none 0 0);refine bodyPost_ret (v:=.tuple #[.agg #[.string { data:=#[] },.slice none 0 0],.bool false]) (by simp[results,Tryz.results57,go_sem,q0,q1]) rfl ?_;rw[zA HN];exact⟨yE ((zA ep).alloc (by omega) _) (za8 _ w.heap.size _ _) (by simp;omega) (by simp),rfl⟩
end
section
open Go.RowKit Go.Maps
def vF (ps:P9)(s:B8):Option yY:=match zc3 s with
 | none=>none
 | some A=>if zb6 ps A then some A else none
theorem zlq {s:B8}{A:yY}(h:zc3 s=some A):A.p.size<=s.size/\A.ts.length<=4:=by
 unfold zc3 at h
 split at h
 ·cases h
 ·rename_i p pd ts pl hp
  split at h
  ·cases h;exact zkd hp
  ·cases h
theorem zh0 (w:W8)(s:B8)(tb n:Nat)(ps:P9)(S:B8->Nat)(h:qS Tryz.prog 9 w tb n (stV ps S))(hs:s.size<=2000000):
  Calls Tryz.prog 37 #[.string s,.map (some tb)] w (zqf w (vF ps s)):=by
 have fZ:=h.lt;have HM:=zC h;clear h;go_enter Tryz.func37,Tryz.ntmps37;go_wp2_with fail;refine (z7i _ s hs).mono ?_;rintro e w1 ⟨aT,hp⟩;have cB:=aT.size;have fY:w1.heap[w.heap.size]?=some (.cells #[.string { data:=#[] },.slice none 0 0] 79 (0,0)):=by rw[aT.block _ (by simp)];exact heap_alloc_new w _
 have fA:Below w.heap.size w w1:=(B9.alloc L9 _).trans (aT.mono (by simp));have fa:=(zA HM).block (fA.block tb fZ);have HB:=zC fA;simp at cB;clear aT fA
 cases hP:zc3 s with
 | none=>
  rw[hP] at hp;subst hp;have HN:=zC (show vF ps s=none by unfold vF;rw[hP]);have iF:=(Below.heap_alloc w1 (Obj.cells #[.string { data:=#[] },.slice none 0 0] 79) w.heap.size (by omega)).trans fY;obtain⟨r0,f0⟩:=zB iF 0;obtain⟨r1,f1⟩:=zB iF 1;clear hP fa fY iF;go_wp2_with fail;obtain⟨q0,q1⟩:=zj1 r0 r1 (.string { data:=#[] }) (.slice none 0 0);refine bodyPost_ret (v:=.tuple #[.agg #[.string { data:=#[] },.slice none 0 0],.bool false]) (by simp[results,Tryz.results37,go_sem,q0,q1]) rfl ?_;rw[zA HN];exact⟨yE ((zA HB).alloc (by omega) _) (za8 _ w.heap.size _ _) (by simp;omega) (by simp),rfl⟩
 | some A=>
  rw[hP] at hp;obtain⟨a,c,rfl,aE⟩:=hp;obtain⟨hsz,h4⟩:=zlq hP;have bU:∀ g,(Value.slice a A.ts.length c).ownBlock=some g->g≠w.heap.size:=λ g hg e=>by
   have:=aE.lt g hg;simp at this;omega
  have HT:=zC (zI (base':=w.heap.size) aE (by simp));have tF:=zC bU;have HP:=zC hP;have eG:=fa.block (Below.heap_alloc w1 (Obj.cells #[.string A.p,.slice a A.ts.length c] 79) tb (by omega));have iF:=(Below.heap_alloc w1 (Obj.cells #[.string A.p,.slice a A.ts.length c] 79) w.heap.size (by omega)).trans fY;have vt:=zC eG;have Bu:=zC iF;clear hP fa eG aE bU fY iF HM;go_wp2_with fail;refine (z3z _ tb n ps S A a c (zA vt) (by unfold maxLen;omega)).mono ?_;rintro e w2 ⟨rfl,aU⟩;have bZ:=aU.size;simp at bZ;have eY:=(aU.block w.heap.size (by simp;omega)).trans (zA Bu);have gT:=(aU.block w1.heap.size (by simp)).trans (heap_alloc_new w1 _);have ep:=zC (((zA HB).alloc (by omega) _).trans (aU.mono (by simp;omega)));have tM:=zC (zG ((zA HT).alloc _) aU (λ g e=>by have:=((zA HT).lt g e).2;simp;omega));obtain⟨r0,f0⟩:=zB eY 0;obtain⟨r1,f1⟩:=zB eY 1;obtain⟨a0,g0⟩:=zB gT 0;obtain⟨a1,g1⟩:=zB gT 1;clear aU eY gT
  cases hS:zb6 ps A with
  | false=>
   have HN:=zC (show vF ps s=none by unfold vF;rw[zA HP];simp[hS]);clear hS;go_wp2_with fail;obtain⟨q0,q1⟩:=zj1 r0 r1 (.string { data:=#[] }) (.slice none 0 0);refine bodyPost_ret (v:=.tuple #[.agg #[.string { data:=#[] },.slice none 0 0],.bool false]) (by simp[results,Tryz.results37,go_sem,q0,q1]) rfl ?_;rw[zA HN];exact⟨yE (zA ep) (za8 _ w.heap.size _ _) (by omega) (by simp),rfl⟩
  | true=>
   have HN:=zC (show vF ps s=some A by unfold vF;rw[zA HP];simp[hS]);clear hS;go_wp2_with fail;obtain⟨q0,q1⟩:=zj1 r0 r1 (.string A.p) (.slice a A.ts.length c);refine bodyPost_ret (v:=.tuple #[.agg #[.string A.p,.slice a A.ts.length c],.bool true]) (by simp[results,Tryz.results37,go_sem,q0,q1]) rfl ?_;rw[zA HN];exact⟨yE (zA ep) (za8 _ w.heap.size _ _) (by omega) (by simp),a,c,rfl,jL (zA tM) (za8 _ w.heap.size _ _) (zA tF)⟩
end
section
open Go.RowKit Go.Maps
inductive zms (w:W8)(rs:List PR)(ps:P9)(s:B8)(limit:Int)(w':W8):Ending->Prop
 | arg:qX limit=false->zms w rs ps s limit w' (.returned (.tuple #[.slice none 0 0,.int .i64 8]))
 | ask:qX limit=true->vF ps s=none->zms w rs ps s limit w' (.returned (.tuple #[.slice none 0 0,.int .i64 6]))
 | fk {A:yY} {S:B8->Nat} {m:Nat}:qX limit=true->vF ps s=some A->qH (rs.map (·.R)) S->ztd (rs.map (·.R)) S->jS ps S m->qD rs S limit.toNat m 0 [] none->zms w rs ps s limit w' (.returned (.tuple #[.slice none 0 0,.int .i64 7]))
 | yes {A:yY} {S:B8->Nat} {m:Nat} {K:List (Th × Nat)} {zs:List B8} {a:O8} {c:Nat}:qX limit=true->vF ps s=some A->qH (rs.map (·.R)) S->ztd (rs.map (·.R)) S->jS ps S m->qD rs S limit.toNat m 0 [] (some K)->(K.map (·.1)).Nodup->zs.Perm ((K.filter (zk8 A)).map λ p=>yI p.1)->w'.ownsRow w.heap.size 9 1 (.slice a zs.length c) zs.length ((zcp zs).map encStr)->zms w rs ps s limit w' (.returned (.tuple #[.slice a zs.length c,.int .i64 0]))
theorem zv2 {l:Int}(h:qX l=true):1<=l/\l<=50:=by unfold qX at h;simpa using h
theorem aD.iY {w w':W8}{n base:Nat}{rv:Value}{rs:List PR}(h:aD w base rv rs)(k:Below n w w')(hn:w.heap.size<=n):aD w' base rv rs:=
 h.cZ (B:=[]) ⟨k.os,k.tape,k.output,k.size,λ i hi _=>k.block i (by omega)⟩ (by simp)
theorem zyn (w:W8)(base b:Nat)(rs:List PR)(ps:P9)(s:B8)(limit:Int)(TI:Th->Prop)(hs:s.size<=2000000)(h:zm3 w base b rs)(iG:rs.length<=30)(cE:∀ r∈rs,r.bs.length<=3)(eN:∀ r∈rs,r.R.pd.size<=800)(kX:∀ r∈rs,∀ x∈r.bs,x.1.pd.size<=800)(kc:qT ((rs.map (·.R)).flatMap xV) [])(gj:j5 ((rs.map (·.R)).flatMap xV) []=ps)(dP:ps.length<=1000)(ak:∀ r∈rs,(∃ n,zZ ps r.R.pd=some n)/\∀ x∈r.bs,∃ n,zZ ps x.1.pd=some n)(f0:B8->Nat)(bR:qH (rs.map (·.R)) f0)(jd:∀ k,f0 k<=1000)(oX:eT rs TI)(Fe:∀ t,TI t->(zbv t.1 (xE t)).length<=1000000000):
  Calls Tryz.prog 20 #[.pointer (some ⟨b,0,none⟩),.string s,.int .i64 limit] w λ e w'=>zms w rs ps s limit w' e/\Below w.heap.size w w':=by
 obtain⟨a,c,hb,bO,hr⟩:=h;have ja:b<w.heap.size:=(Array.getElem?_eq_some_iff.1 hb).1;obtain⟨x0,_⟩:=zB hb 0;have HR:=zC hr;have HB:=zC hb;have pZ:=zC oX;have Il:=zC Fe;have rN:=zC (z2e w base a c rs ps hr iG cE eN kX kc gj dP ak f0 bR jd);have ie:=zC (show ∀ r∈rs,r.R.pd.size<=800/\(zZ ps r.R.pd).isSome=true from λ r hr=>⟨eN r hr,by obtain⟨n,e⟩:=(ak r hr).1;rw[e];rfl⟩);have wH:=zC bR;have tt:=zC jd;clear hr cE eN kX kc gj dP ak bR jd oX Fe;go_enter Tryz.func20,Tryz.ntmps20;go_wp2_with fail;refine (zrq w limit).mono ?_;rintro e w1 ⟨rfl,hw⟩;have hw:=hw.symm;subst hw
 cases hL:qX limit with
 | false=>
  have HL:=zC hL;clear hL;go_wp2_with fail
  go_ret2
  exact⟨.arg (zA HL),Below.refl _ _⟩
 | true=>
  obtain⟨l1,Ky⟩:=zv2 hL;obtain⟨lim,rfl⟩:∃ n:Nat,limit=n:=⟨limit.toNat,by omega⟩;have HL:=zC hL;clear hL;go_wp2_with fail;refine (zb4 _ b _ a rs.length c rfl x0).mono ?_;rintro e w2 ⟨rfl,hw⟩;have hw:=hw.symm;subst hw;go_wp2_with fail;refine (zA rN).mono ?_;clear rN;rintro e w2 ⟨rfl,bZ,aU,S,n,hm,hn,fD,aX⟩;have HS:=zC (show ∀ k,(zZ ps k).isSome=true->S k<=1000000 from λ k _=>by have:=aX f0 (zA wH) k;have:=zA tt k;omega);have HV:=zC fD;have iJ:=zC aX;have HM:=zC hm;have ep:=zC aU;clear fD aX hm aU x0;go_wp2_with fail;refine (zh0 w2 s _ n ps S (zA HM) hs).mono ?_;rintro e w3 ⟨cE,hp⟩;have pO:=cE.size;have iz:=(zA ep).trans (cE.mono (by omega));have ma:=(iz.block b ja).trans (zA HB);have ey:=(zA HM).block (cE.block _ bZ);have iF:=(zA HR).iY iz L9
  cases hP:vF ps s with
  | none=>
   rw[hP] at hp;subst hp;have HP:=zC hP;have gh:=zC (iz.alloc (by omega) (.cells #[.string { data:=#[] },.slice none 0 0] 79));clear hP iz ma ey iF cE;go_wp2_with fail
   go_ret2
   exact⟨.ask (zA HL) (zA HP),zA gh⟩
  | some A=>
   rw[hP] at hp;obtain⟨aa,ac,rfl,aE⟩:=hp;have bQ:=iz.alloc (by omega) (.cells #[.string A.p,.slice aa A.ts.length ac] 79);have cW:=(Below.heap_alloc w3 (.cells #[.string A.p,.slice aa A.ts.length ac] 79) b (by omega)).trans ma;have jr:=ey.block (Below.heap_alloc w3 (.cells #[.string A.p,.slice aa A.ts.length ac] 79) w.heap.size (by omega));have eY:=iF.below (B9.alloc L9 (.cells #[.string A.p,.slice aa A.ts.length ac] 79));have sI:=aE.alloc (.cells #[.string A.p,.slice aa A.ts.length ac] 79);have oR:=heap_alloc_new w3 (.cells #[.string A.p,.slice aa A.ts.length ac] 79);obtain⟨JX,h4⟩:A.p.size<=s.size/\A.ts.length<=4:=by
    unfold vF at hP
    split at hP
    ·cases hP
    ·rename_i A' hA
     split at hP
     ·cases hP;exact zlq hA
     ·cases hP
   have ll:(w3.alloc (.cells #[.string A.p,.slice aa A.ts.length ac] 79)).heap.size=w3.heap.size+1:=(by simp);have HP:=zC hP;have eC:=zC bQ;have gV:=zC cW;have Mz:=zC jr;have nY:=zC eY;have xe:=zC sI;have AW:=zC oR;have BN:=zC ll;clear hP iz ma ey iF cE bQ cW jr eY sI oR aE ll;go_wp2_with fail;generalize (w3.alloc (.cells #[.string A.p,.slice aa A.ts.length ac] 79))=w4 at *;obtain⟨x0,_⟩:=zB (zA gV) 0;refine (zb4 _ b _ a rs.length c rfl x0).mono ?_;rintro e w5 ⟨rfl,hw⟩;have hw:=hw.symm;subst hw;clear x0;go_wp2_with fail;have ll:=zA BN;refine (zvy w4 base a c rs w.heap.size n ps S lim TI (zA nY) (by omega) (zA Mz) (zA HS) (by omega) (zA ie) (zA pZ) (by omega)).mono ?_;rintro e w5 ⟨m,r,kT,il,eO,cP,eJ⟩;have gi:=(zA eC).trans (eO.mono (by omega));have jy:=(eO.block w3.heap.size (by omega)).trans (zA AW);have pE:=zG (zA xe) eO (λ g e=>((zA xe).lt g e).2)
   cases r with
   | none=>
    have he:=cP rfl;subst he;have jn:=zC gi;have HX:=zC (And.intro kT il);clear cP eJ kT il gi jy pE eO ll;go_wp2_with fail
    go_ret2
    exact⟨.fk (zA HL) (zA HP) (zA HV) (zA iJ) (zA HX).1 (zA HX).2,zA jn⟩
   | some K=>
    obtain⟨kb,rfl,EW,cA,B5,Ln⟩:=eJ K rfl;have u6:=eO.size;obtain⟨y0,_⟩:=zB jy 0;obtain⟨y1,_⟩:=zB jy 1;have jn:=zC gi;have HX:=zC (And.intro kT il);have kz:=zC cA;have Bw:=zC pE;have wO:=zC Ln;clear cP eJ kT il gi jy pE eO cA Ln ll;go_wp2_with fail;refine (zrp w5 kb w2.heap.size A aa ac K (zA kz) (zA Bw) h4 (by omega) (λ p hp=>zA Il _ (zA wO p hp))).mono ?_;rintro e w6 ⟨zs,az,cz,rfl,dC,sJ,iA⟩;have HZ:=zC (zms.yes (limit:=(lim:Int)) (zA HL) (zA HP) (zA HV) (zA iJ) (zA HX).1 (zA HX).2 (zA kz).nodup dC (zI (base':=w.heap.size) sJ (zA jn).size));have mU:=zC ((zA jn).trans (iA.mono (zA jn).size));clear dC sJ iA;go_wp2_with fail
    go_ret2
    exact⟨zA HZ,zA mU⟩
end
end Go.Proofs.YtldkpahaocjdpaaGreat
