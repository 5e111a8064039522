/-
  Plain: what is printed is a text again, with the same rules.
-/
import Derived.Test.YtldkpahaocjdpaaGreatR49
set_option maxHeartbeats 16000000
set_option maxRecDepth 1000000
namespace Go.Proofs.YtldkpahaocjdpaaGreat
section
variable {s:B8}
theorem zxl {p:Int->Bool}{k:Nat}(hk:k<=s.size)(h:k<skip p s k)(h8:skip p s k-k<=8):zP (s.extract k (skip p s k))≠[]/\(zP (s.extract k (skip p s k))).length<=8/\∀ c∈zP (s.extract k (skip p s k)),p c.toNat=true:=by
 have hle:=zed p s k hk;have hl:(zP (s.extract k (skip p s k))).length=skip p s k-k:=by
  rw[zc2,ByteArray.size_extract];omega
 refine⟨λ e=>?_,by omega,λ c hc=>?_⟩
 ·rw[e] at hl;simp at hl;omega
 ·obtain⟨j,hj,h1,h2,rfl⟩:=zhr hle hc;exact (zyb p s k j h1 h2).2
variable {p:Nat}
theorem yc5:((tok s p).kind=110->vT 2 (zP (tok s p).text))/\((tok s p).kind=118->vT 3 (zP (tok s p).text)):=by
 unfold tok;generalize skip yG s p=k;unfold z05
 by_cases c0:s.size<=k
 ·rw[if_pos c0];exact⟨(λ h=>by cases h),(λ h=>by cases h)⟩
 rw[if_neg c0]
 by_cases c1:k<skip jD s k
 ·rw[if_pos c1]
  by_cases c2:(s.extract k (skip jD s k)).toList=[110,111,116]
  ·rw[if_pos c2];exact⟨(λ h=>by cases h),(λ h=>by cases h)⟩
  rw[if_neg c2]
  by_cases c3:skip jD s k-k<=8
  ·rw[if_pos c3];obtain⟨h1,h2,h3⟩:=zxl (p:=jD) (by omega) c1 c3;exact⟨λ _=>.name h1 h2 h3 (λ e=>c2 (by rw[ByteArray.toList_eq];exact e)),(λ h=>by cases h)⟩
  ·rw[if_neg c3];exact⟨(λ h=>by cases h),(λ h=>by cases h)⟩
 rw[if_neg c1]
 by_cases c4:k<skip yZ s k
 ·rw[if_pos c4]
  by_cases c3:skip yZ s k-k<=8
  ·rw[if_pos c3];obtain⟨h1,h2,h3⟩:=zxl (p:=yZ) (by omega) c4 c3;exact⟨(λ h=>by cases h),λ _=>.var h1 h2 h3⟩
  ·rw[if_neg c3];exact⟨(λ h=>by cases h),(λ h=>by cases h)⟩
 rw[if_neg c4]
 by_cases c5:qG s k=0
 ·rw[if_pos c5];exact⟨(λ h=>by cases h),(λ h=>by cases h)⟩
 rw[if_neg c5]
 by_cases c6:qG s k=2
 ·rw[if_pos c6];exact⟨(λ h=>by cases h),(λ h=>by cases h)⟩
 ·rw[if_neg c6];exact⟨(λ h=>by cases h),(λ h=>by cases h)⟩
theorem Nf:((zD s p).1=2->vT 2 (zP (yP s p)))/\((zD s p).1=3->vT 3 (zP (yP s p))):=by
 by_cases hp:p<=s.size
 ·have K:=zeo s p hp;have T:=yc5 (s:=s) (p:=p)
  constructor
  ·intro h;rw[K.word (.inl (K.k2.1 h))];exact T.1 (K.k2.1 h)
  ·intro h;rw[K.word (.inr (K.k3.1 h))];exact T.2 (K.k3.1 h)
 ·have e:skip yG s p=p:=zcn _ _ _ (by omega);have z:(s.extract p s.size).size=0:=by rw[ByteArray.size_extract];omega
  have:(zD s p).1=0:=by unfold zD;rw[e];simp only;unfold qF;rw[dif_neg (by omega)]
  exact⟨(λ h=>by omega),(λ h=>by omega)⟩
def ydk (t:Bool × B8):Prop:=vT (za0 t).1 (za0 t).2
theorem yfs (h:(zD s p).1=2\/(zD s p).1=3):ydk (decide ((zD s p).1=3),yP s p):=by
 unfold ydk za0;rcases h with h | h
 ·rw[h];exact Nf.1 h
 ·rw[h];exact Nf.2 h
theorem z0k (s:B8)(f:Nat):∀ {p:Nat} {l:List (Bool × B8)} {pl:Nat->Nat},(∀ t∈l,ydk t)->∀ t∈(zN s f p l pl).2.2.1,ydk t:=by
 induction f with
 | zero=>intro p l pl h;exact h
 | succ f ih=>
  intro p l pl h;rw[zN]
  split
  ·rename_i hk;have h':∀ t∈l++[(decide ((zD s p).1=3),yP s p)],ydk t:=λ t ht=>by
    rcases List.mem_append.1 ht with ht | ht
    ·exact h t ht
    ·rw[List.mem_singleton.1 ht];exact yfs hk
   split
   ·exact ih h'
   ·exact h'
  ·exact h
structure zyq (pd:B8)(ts:List (Bool × B8)):Prop where
 pd:vT 2 (zP pd)
 ts:∀ t∈ts,ydk t
theorem Nc {q:Nat}{pd:B8}{ts:List (Bool × B8)}{pl:Nat->Nat}(h:yK s p=.yes q pd ts pl):zyq pd ts:=by
 unfold yK at h
 by_cases c1:(zD s p).1=2
 ·rw[if_pos c1] at h
  by_cases c2:(zD s (zD s p).2.2).1=5
  ·rw[if_pos c2] at h
   by_cases c3:(zN s 4 (zD s (zD s p).2.2).2.2 [] (λ _=>0)).1=true
   ·rw[if_pos c3] at h;injection h with h1 h2 h3 h4
    subst h2 h3;exact⟨Nf.1 c1,z0k s 4 (by simp)⟩
   ·rw[if_neg c3] at h;cases h
  ·rw[if_neg c2] at h;injection h with h1 h2 h3 h4
   subst h2 h3;exact⟨Nf.1 c1,by simp⟩
 ·rw[if_neg c1] at h;cases h
def ya8 (R:yH):Prop:=zyq R.pd R.ts/\∀ l∈R.body,zyq l.pd l.ts
theorem z4g (s:B8)(num f:Nat):∀ {p:Nat} {l:List yR} {ms:List yS},(∀ x∈l,zyq x.pd x.ts)->∀ x∈(xK s num f p l ms).2.2.1,zyq x.pd x.ts:=by
 induction f with
 | zero=>intro p l ms hl;exact hl
 | succ f ih=>
  intro p l ms hl;rw[xK]
  cases hr:yK s (z6 s p 4) with
  | no q=>exact hl
  | yes q pd ts pl=>
   have mE:∀ x∈l++[cY s p pd ts],zyq x.pd x.ts:=λ x hx=>by
    rcases List.mem_append.1 hx with hx | hx
    ·exact hl x hx
    ·simp at hx;subst hx;exact Nc hr
   simp only
   split
   ·exact ih (p:=(zD s q).2.2) mE
   ·exact mE
theorem z4o (s:B8)(num p:Nat)(ms:List yS)(h:(yQ s num p ms).1=true):ya8 (yQ s num p ms).2.2.1:=by
 unfold yQ at h ⊢
 cases hr:yK s p with
 | no q=>rw[hr] at h;cases h
 | yes q pd ts pl=>
  rw[hr] at h;simp only at h ⊢
  split
  ·exact⟨Nc hr,by simp⟩
  ·split
   ·exact⟨Nc hr,z4g s num 3 (p:=(zD s q).2.2) (l:=[]) (by simp)⟩
   ·exact⟨Nc hr,by simp⟩
theorem z0i (s:B8)(f:Nat):∀ {p:Nat} {rs:List yH} {ms:List yS},(∀ R∈rs,ya8 R)->∀ R∈(xJ s f p rs ms).2.2.1,ya8 R:=by
 induction f with
 | zero=>intro p rs ms hr;exact hr
 | succ f ih=>
  intro p rs ms hr;rw[xJ]
  split
  ·exact hr
  ·split
   ·exact hr
   ·split
    ·rename_i hy;refine ih (λ R hR=>?_);rcases List.mem_append.1 hR with hR | hR
     ·exact hr R hR
     ·rw[List.mem_singleton.1 hR];exact z4o s _ _ _ hy
    ·exact hr
theorem z9u (s:B8):∀ R∈(zJ s).2.2.1,zgv R:=λ R hR=>by
 obtain⟨h1,h2⟩:=z0i s 31 (p:=0) (rs:=[]) (ms:=[]) (by simp) R hR;exact⟨h1.pd,h1.ts,λ l hl=>(h2 l hl).pd,λ l hl=>(h2 l hl).ts⟩
def prX (R:yH):PR:=⟨R,.bool false,R.body.map λ l=>(l,.bool false),.bool false⟩
theorem yao (R:yH):(prX R).bs.map (·.1)=(prX R).R.body:=by
 unfold prX;simp[List.map_map,Function.comp_def]
theorem z8y (h:(z7 s).1=true):∃ lv:B8->Nat,∀ R∈(zJ s).2.2.1,zeu (λ k=>(zV (zF s).2 k).getD 0) lv R:=by
 have hg:=qR h;obtain⟨lv,Ot,_⟩:=hg.some_;have hrel:=zfl (rp:=(zJ s).2.2.1.map prX) h (by rw[List.map_map];exact List.map_id _) (λ r hr=>by obtain⟨R,_,rfl⟩:=List.mem_map.1 hr;exact yao R);refine⟨lv,λ R hR=>?_⟩;have hG:=hrel.dh (prX R) (List.mem_map_of_mem hR);have oi:∀ {x:yR × Value},x∈(prX R).bs->x.1∈R.body:=λ {x} hx=>by
  have:=List.mem_map_of_mem (f:=(·.1)) hx
  rwa [yao] at this
 have Nr:∀ l∈R.body,∃ x∈(prX R).bs,x.1=l:=λ l hl=>⟨(l,.bool false),List.mem_map.2 ⟨l,hl,rfl⟩,rfl⟩
 have hk:=Ot R hR;refine⟨⟨hG.hd.w.ft,hg.body R hR,λ l hl=>?_⟩,?_,λ l hl=>?_,λ t ht hv=>?_,λ l hl hn t ht hv=>?_,λ l hl=>?_,λ l hl hn=>?_⟩
 ·obtain⟨x,hx,rfl⟩:=Nr l hl;exact (hG.ls x hx).w.ft
 ·have:=hG.hd.num
  show R.ts.length=(zV (zF s).2 R.pd).getD 0
  rw[show zV (zF s).2 R.pd=some R.ts.length from this];rfl
 ·obtain⟨x,hx,rfl⟩:=Nr l hl
  show x.1.ts.length=(zV (zF s).2 x.1.pd).getD 0
  rw[show zV (zF s).2 x.1.pd=some x.1.ts.length from (hG.ls x hx).num];rfl
 ·obtain⟨a,ha,zu⟩:=hG.mP t ht hv;obtain⟨x,hx,M4,rfl⟩:=zqu.1 ha;exact⟨x.1,oi hx,M4,zu⟩
 ·obtain⟨x,hx,rfl⟩:=Nr l hl;obtain⟨a,ha,zu⟩:=hG.mQ ⟨x.1.pd,x.1.ts⟩ (zvk.2 ⟨x,hx,hn,rfl⟩) t ht hv;obtain⟨y,hy,Ow,rfl⟩:=zqu.1 ha;exact⟨y.1,oi hy,Ow,zu⟩
 ·have:=hk l hl
  split at this <;> omega
 ·have:=hk l hl;rw[if_pos hn] at this;omega
theorem zpo:∀ (ts:List (Bool × B8)) (i:Nat),ts≠[]->xP ts i++[41]=(if i=0 then 40 else 44)::zcy (jJ ts)
 | [],_,h=>absurd rfl h
 | [t],i,_=>by simp[xP,jJ,zcy,za0,zP]
 | t::u::r,i,_=>by
  have ih:=zpo (u::r) (i+1) (by simp);rw[if_neg (by omega)] at ih;rw[xP,jJ,List.cons_append,List.append_assoc,ih,zba,zba];simp[za0,zP]
theorem zk5 (b:List UInt8)(pd:B8)(ts:List (Bool × B8)):zcy (jW b pd ts)=b++j2 pd ts:=by
 unfold j2 jW
 cases ts with
 | nil=>simp[xP,zcy,zP]
 | cons t r=>
  have:=zpo (t::r) 0 (by simp);rw[if_pos rfl] at this;rw[if_neg (by simp),this];simp only[zba,List.nil_append];rfl
theorem zxw (b:List UInt8)(l:yR):zcy (zhz b l)=b++zxv l:=by
 unfold zhz zxv
 cases l.neg with
 | true=>
  simp only[if_true];rw[zba,zk5];simp
 | false=>
  simp only[Bool.false_eq_true,if_false];rw[zk5];simp
theorem zr8:∀ (ls:List yR) (i:Nat),ls≠[]->zge ls i++[46]=(if i=0 then [32,58,45] else [44])++zcy (zaf ls)
 | [],_,h=>absurd rfl h
 | [l],i,_=>by
  rw[zge,zaf,j8,zxw]
  by_cases h:i=0 <;> simp[h,zge,zcy]
 | l::m::r,i,_=>by
  have ih:=zr8 (m::r) (i+1) (by simp);rw[if_neg (by omega)] at ih;rw[zge,zaf,j8,zxw,zba,List.append_assoc,List.append_assoc,ih]
  by_cases h:i=0 <;> simp[h]
theorem z47 (R:yH):zif R=zcy (zaj [] R)++[10]:=by
 unfold zif zaj;rw[j8,zk5,List.nil_append,List.append_assoc]
 congr 1
 cases hb:R.body with
 | nil=>rfl
 | cons l r=>
  have:=zr8 (l::r) 0 (by simp);rw[if_pos rfl] at this;simp only;rw[show ([46,10]:List UInt8)=[46]++[10] from rfl,<-List.append_assoc,this,zba];rfl
theorem zpb {rules:List yH}(h:rules≠[]):qZ rules=zcy (vN [10] [] rules)++[10]:=by
 rw[zfz [10] rules []]
 cases rules with
 | nil=>exact absurd rfl h
 | cons R r=>
  unfold qZ;simp only[List.nil_append,List.append_nil];exact congrArg (λ f=>(R::r).flatMap f) (funext z47)
theorem z0d (h:(z7 s).1=true)(hsz:(qZ (zJ s).2.2.1).length<=800):z7 (aC (qZ (zJ s).2.2.1))=(true,0,0)/\(zJ (aC (qZ (zJ s).2.2.1))).2.2.1=(zJ s).2.2.1:=by
 obtain⟨lv,hR⟩:=z8y h;have hw:=z9u s;have hl:=(qR h).len;have hb:∀ c∈[(10:UInt8)],yG c.toNat=true:=λ c hc=>zr5 c (.inr (List.mem_singleton.1 hc))
 generalize (zJ s).2.2.1=rules at *
 cases rules with
 | nil=>exact zgd (sep:=[10]) (tail:=[]) hb (by simp) (by simp) (rules:=[]) (ar:=λ k=>(zV (zF s).2 k).getD 0) (lv:=lv) (by rw[jO];exact hsz) hR hw hl rfl
 | cons R r=>exact zgd (sep:=[10]) (tail:=[10]) hb (by simp) hb (ar:=λ k=>(zV (zF s).2 k).getD 0) (lv:=lv) (by rw[jO];exact hsz) hR hw hl (zpb (by simp))
theorem z0c {s':B8}(h:(z7 s).1=true)(h':(z7 s').1=true)(hR:(zJ s).2.2.1=(zJ s').2.2.1):(zF s).2=(zF s').2:=by
 rw[<-(qR h).met,<-(qR h').met,hR]
theorem z02 (R:Nat->Raw){n:Nat}(hn:n<=14):(qZ (zJ (aC (aW (λ i=>aZ (R i)) n))).2.2.1).length<=800:=by
 rw[(zij (λ i=>aZ (R i)) n hn (λ i _=>zhx _ _ _ _)).2,zpb (by unfold zmm;simp)];have h1:=zpp (λ i=>aZ (R i)) n;have h2:=zfp (λ i=>aZ (R i)) n;have h3:∀ (rules:List yH) (b:List UInt8),b.length<=1->(zcy (vN [10] b rules)).length=(zcy (vN [32] b rules)).length:=λ rules=>by
  induction rules with
  | nil=>intro b _;rfl
  | cons Q r ih=>
   intro b _;rw[vN,vN,j8,j8,List.length_append,List.length_append];have hs:∀ c:UInt8,(zcy (vN [c] [10] r)).length=(zcy (vN [c] [32] r)).length:=λ c=>by
    cases r with
    | nil=>rfl
    | cons Q r=>
     rw[vN,vN,j8,j8,List.length_append,List.length_append];have e1:=zks [10] Q [];have e2:=zks [32] Q [];rw[List.append_nil,List.append_nil] at e1 e2;rw[e1,e2];simp
   rw[hs 10,ih [32] (by simp)]
 have h4:=congrArg List.length h1;rw[List.length_append] at h4 ⊢;rw[h3 _ _ (by simp)];simp only[List.length_singleton] at h4 ⊢;omega
end
section
open Go.RowKit Go.Maps
variable {s s':B8}
theorem ztm (h:(z7 s).1=true)(h':(z7 s').1=true)(hR:∀ R,R∈(zJ s).2.2.1->R∈(zJ s').2.2.1)(k:B8):(zV (zF s).2 k).isSome=true->(zV (zF s').2 k).isSome=true:=λ hk=>by
 have g:=qR h;have g':=qR h';obtain⟨n,hn⟩:=Option.isSome_iff_exists.1 hk;rw[<-g.met] at hn;rcases zkp _ _ _ _ hn with e | e
 ·cases e
 ·obtain⟨R,LJ,hx⟩:=List.mem_flatMap.1 e;obtain⟨n1,n2⟩:=g'.named R (hR R LJ);unfold xS at hx;rcases List.mem_cons.1 hx with e | e
  ·obtain⟨m,hm⟩:=n1;have e1:k=R.pd:=congrArg Prod.fst e;rw[e1,hm];rfl
  ·obtain⟨l,hl,e⟩:=List.mem_map.1 e;obtain⟨m,hm⟩:=n2 l hl;have e1:l.pd=k:=congrArg Prod.fst e;rw[<-e1,hm];rfl
variable {m:Nat} {S:B8->Nat}
theorem zy5 {ps AQ:P9}(h:∀ k,(zV ps k).isSome=true↔(zV AQ k).isSome=true)(hc:vY ps S m):vY AQ S m:=
 ⟨λ k hk=>hc.1 k ((h k).2 hk),hc.2.imp id λ ⟨k,hk,e⟩=>⟨k,(h k).1 hk,e⟩⟩
variable {rs:List PR} {w w':W8}
theorem Mod.two {xb DT lo DH:Nat}{qq:List PR}(hP:aY s xb w lo rs)(og:aY s' DT w' DH qq)(hR:∀ R,R∈(zJ s).2.2.1↔R∈(zJ s').2.2.1){limit:Nat}{S':B8->Nat}{m':Nat}{r r':Option (List (Th × Nat))}(h:Mod s rs limit S m r)(h':Mod s' qq limit S' m' r'):(r=none/\r'=none)\/∃ K K',r=some K/\r'=some K'/\K.Perm K'/\K.length<=limit:=by
 have hm:∀ R,R∈rs.map (·.R)↔R∈qq.map (·.R):=λ R=>by rw[hP.rules,og.rules];exact hR R
 have jg:xN rs qq:=⟨hm,hP.cg,og.cg⟩;obtain rfl:=zfv hm h.valid h.low h'.valid h'.low;have gj:∀ k,(zV (zF s).2 k).isSome=true↔(zV (zF s').2 k).isSome=true:=λ k=>⟨ztm hP.ok og.ok (λ R=>(hR R).1) k,ztm og.ok hP.ok (λ R=>(hR R).2) k⟩
 obtain rfl:=zbs (zy5 gj h.count) h'.count;exact zt9 jg h.gJ (List.Perm.refl _) (Nat.zero_le _) h'.gJ
theorem z3l {K K':List (Th × Nat)}(h:K.Perm K')(hn:(K.map (·.1)).Nodup)(t:Th):zU K t=zU K' t:=by
 have qk:(K'.map (·.1)).Nodup:=(h.map _).nodup_iff.1 hn
 cases hk:zU K t with
 | none=>
  cases sl:zU K' t with
  | none=>rfl
  | some n=>
   have:=z3k h t;rw[hk,sl] at this;cases this
 | some n=>exact (qO qk (h.mem_iff.1 (vJ hk))).symm
theorem NM.pW {e:Ending}(h:NM s rs w e w'):∃ a c zs sm,e=.returned (.tuple #[.slice a zs.length c,.bool sm])/\qd w' a c zs/\yfh s rs sm zs/\(sm=false->zs=[])/\Below w.heap.size w w':=by
 obtain⟨hb,S,m,r,hM,⟨rfl,rfl⟩ | ⟨K,a,c,rfl,hK,rfl,aE⟩⟩:=h
 ·exact⟨none,0,[],false,rfl,⟨Nat.le_refl _,by unfold maxLen;omega,λ j hj=>by simp at hj⟩,⟨S,m,hM⟩,λ _=>rfl,hb⟩
 ·exact⟨a,c,zm1 K 4,true,rfl,qd.ib aE,⟨S,m,K,hM,rfl⟩,(λ e=>by cases e),hb⟩
end
section
noncomputable def yfo {Ty:Type}(P:Ty->Prop)(d:Ty):Ty:=open Classical in if h:∃ r,P r then h.choose else d
theorem ztu (ps:P9)(rp:List PR)(S:B8->Nat)(K:List (Th × Nat))(O:List Pl):ztt ps rp S K O=yfo (zhi ps S rp K O) λ _=>(0,[]):=rfl
variable {rs:List PR}
theorem ycp {ps:P9}{rp:List PR}(hm:rs.map (·.R)=rp.map (·.R))(ha:∀ r∈rs,r.bs.map (·.1)=r.R.body)(hb:∀ r∈rp,r.bs.map (·.1)=r.R.body)(S:B8->Nat){K K':List (Th × Nat)}(hK:K.Perm K')(O:List Pl):ztt ps rs S K O=ztt ps rp S K' O:=by
 rw[ztu,ztu]
 have:zhi ps S rs K O=zhi ps S rp K' O:=funext λ r=>propext ⟨λ h=>by
  have h:=zk0 hm ha hb h;exact⟨h.perm.trans (hK.map _),h.least,h.len,h.low⟩,λ h=>by
  have h:=zk0 hm.symm hb ha h
  exact⟨h.perm.trans (hK.map _).symm,h.least,h.len,h.low⟩⟩
 rw[this]
theorem z0w {O O':List Pl}(h:O.Perm O')(h1:O.Pairwise λ p q=>xX p q=true)(h2:O'.Pairwise λ p q=>xX p q=true):O=O':=
 List.Perm.eq_of_pairwise (le:=λ p q=>xX p q=true) (λ a b _ _ h3 h4=>by
  have:=Na h3 h4;rw[NG] at this
  cases this) h1 h2 h
theorem z7l {s s':B8}{xb DT:Nat}{w w':W8}{lo DH:Nat}{qq:List PR}(hP:aY s xb w lo rs)(og:aY s' DT w' DH qq)(hR:(zJ s).2.2.1=(zJ s').2.2.1){q:B8}{t:Th}(hq:yft s q t){w1 w2:W8}{e:Ending}(hE:zkc w1 rs (zF s).2 q 50 (ztt (zF s).2 rs) w2 e):∃ (v hh er:Nat) (a:O8) (c:Nat) (bs:List Nat),e=.returned (.tuple #[.agg #[.int .i64 (v:Nat),.int .i64 (hh:Nat),.slice a bs.length c],.int .i64 (er:Nat)])/\w2.ownsRow w1.heap.size 5 1 (.slice a bs.length c) bs.length (bs.map u8c)/\∀ (GM GN:W8) (e':Ending),zkc GM qq (zF s').2 q 50 (ztt (zF s').2 qq) GN e'->∃ (a':O8) (c':Nat),e'=.returned (.tuple #[.agg #[.int .i64 (v:Nat),.int .i64 (hh:Nat),.slice a' bs.length c'],.int .i64 (er:Nat)])/\GN.ownsRow GM.heap.size 5 1 (.slice a' bs.length c') bs.length (bs.map u8c):=by
 have gj:=z0c hP.ok og.ok hR;have JZ:vF (zF s').2 q=some t:=by rw[<-gj];exact hq.sZ
 have bC:∀ R,R∈(zJ s).2.2.1↔R∈(zJ s').2.2.1:=λ R=>by rw[hR]
 have Ay:rs.map (·.R)=qq.map (·.R):=by rw[hP.rules,og.rules,hR]
 rcases zdv (limit:=50) (by decide) (by decide) hP.cg hq.sZ hE with⟨S,m,hM,rfl⟩ | ⟨S,m,K,O,bs,a,c,hW,dB,rfl,aE⟩
 ·refine⟨0,0,7,none,0,[],rfl,World.ownsRow_nil _ _ _ _,λ GM GN e' IQ=>?_⟩;rcases zdv (limit:=50) (by decide) (by decide) og.cg JZ IQ with⟨S',m',wU,rfl⟩ | ⟨S',m',K',O',bs',a',c',dZ,JR,rfl,_⟩
  ·exact⟨none,0,rfl,World.ownsRow_nil _ _ _ _⟩
  ·rcases Mod.two hP og bC hM dZ.mod with⟨_,e⟩ | ⟨_,_,e,_⟩
   ·cases e
   ·cases e
 ·refine⟨_,_,0,a,c,bs,rfl,aE,λ GM GN e' IQ=>?_⟩;rcases zdv (limit:=50) (by decide) (by decide) og.cg JZ IQ with⟨S',m',wU,rfl⟩ | ⟨S',m',K',O',bs',a',c',dZ,JR,rfl,Mq⟩
  ·rcases Mod.two hP og bC hW.mod wU with⟨e,_⟩ | ⟨_,_,_,e,_⟩
   ·cases e
   ·cases e
  ·rcases Mod.two hP og bC hW.mod dZ.mod with⟨e,_⟩ | ⟨_,_,e1,e2,e3,_⟩
   ·cases e
   ·obtain rfl:=Option.some.inj e1;obtain rfl:=Option.some.inj e2;have hm:∀ R,R∈rs.map (·.R)↔R∈qq.map (·.R):=λ R=>by rw[Ay]
    obtain rfl:=zfv hm hW.mod.valid hW.mod.low dZ.mod.valid dZ.mod.low;have hO:=z0w (hW.perm.trans ((e3.map _).trans dZ.perm.symm)) hW.sort dZ.sort;subst hO;have hl:=z3l e3 dB t;have cT:bs'=bs:=by
     rw[dZ.eq,hW.eq,<-gj,ycp Ay hP.cg og.cg S e3 O];unfold zc5 gP xQ;rw[hl]
    subst cT;exact⟨a',c',by rw[hl];rfl,Mq⟩
end
section
open Go.RowKit Go.Maps
variable {s:B8}
theorem yeq (h:(z7 s).1=false):¬ (z7 s).2.1=0:=by
 unfold z7 at h ⊢
 by_cases c1:800<s.size
 ·rw[if_pos c1];decide
 rw[if_neg c1] at h ⊢
 split at h
 ·rename_i c;rw[if_pos c];exact (λ h=>by cases h)
 rename_i c;rw[if_neg c]
 split at h
 ·rename_i c;rw[if_pos c];exact (λ h=>by cases h)
 rename_i c;rw[if_neg c]
 split at h
 ·rename_i c;rw[if_pos c];exact (λ h=>by cases h)
 rename_i c;rw[if_neg c]
 split at h
 ·rename_i c;rw[if_pos c];exact (λ h=>by cases h)
 ·cases h
theorem ycr (h:(z7 s).1=true):z7 s=(true,0,0):=by
 unfold z7 at h ⊢
 by_cases c1:800<s.size
 ·rw[if_pos c1] at h;cases h
 rw[if_neg c1] at h ⊢
 split at h
 ·cases h
 rename_i c;rw[if_neg c]
 split at h
 ·cases h
 rename_i c;rw[if_neg c]
 split at h
 ·cases h
 rename_i c;rw[if_neg c]
 split at h
 ·cases h
 ·rename_i c;rw[if_neg c]
noncomputable def bJ (s:B8):B8:=aC (qZ (zJ s).2.2.1)
theorem zxn {xb:Nat}{w:W8}{lo:Nat}{rs:List PR}(h:aY s xb w lo rs):Calls Tryz.prog 28 #[.pointer (some ⟨xb,0,none⟩)] w λ e w'=>e=.returned (.string (bJ s))/\Below w.heap.size w w':=by
 have:=z0a w lo xb rs h.prog (by rw[h.rules];exact ztn h.ok);rw[h.rules] at this;exact this
structure yfg (s:B8):Prop where
 sz:(bJ s).size<=maxLen
 ok:z7 (bJ s)=(true,0,0)
 rules:(zJ s).2.2.1=(zJ (bJ s)).2.2.1
 again:bJ (bJ s)=bJ s
theorem zx8 (h:(z7 s).1=true)(h8:(bJ s).size<=800):yfg s:=by
 have tZ:(qZ (zJ s).2.2.1).length<=800:=by unfold bJ at h8;rwa [jO] at h8
 obtain⟨h1,h2⟩:=z0d h tZ;exact⟨by unfold maxLen;omega,h1,h2.symm,by unfold bJ;rw[h2]⟩
theorem ycl (h:(z7 s).1=true):(bJ s).size<=1000000000:=by unfold bJ;rw[jO];exact ztn h
theorem zvv (w:W8)(la:O8)(n c:Nat)(R:Nat->Raw)(hL:EW w la n R)(dG:n<=c)(dx:c<=maxLen)(wh:Int)(AI:inR wh)(s0:B8)(nI:s0.size<=maxLen):Calls Tryz.prog 12 #[.slice la n c,.int .i64 wh,.string s0] w (zwx w):=by
 have HL:=zC hL;have HN:=zC (And.intro dG dx);have fH:=zC nI;have NU:=zC AI;clear hL dG dx nI AI;go_enter Tryz.func12,Tryz.ntmps12;go_wp2_with fail;refine (yah w).mono ?_;rintro e w1 ⟨rfl,aT⟩;have cR:=zC aT;have HT:=zC (yef w1 la n c R ((zA HL).below aT) (zA HN).1 (zA HN).2 14 (by decide));clear aT;go_wp2_with fail;refine (zA HT).mono ?_;rintro e w2 ⟨rfl,aU⟩;have hK:=zyj R (n:=min n 14) (by omega);have H3:=zC (zx8 (s:=aC (aW (λ i=>aZ (R i)) (min n 14))) (by rw[hK.ok]) (by unfold bJ;rw[jO];exact z02 R (by omega)));generalize aC (aW (λ i=>aZ (R i)) (min n 14))=s at *;have HK:=zC hK;have ep:=zC ((zA cR).trans (aU.mono (zA cR).size));have Ed:=zC (z3a w2 s hK.sz hK.ok);clear hK aU HT cR HN HL;go_wp2_with fail;refine (zA Ed).mono ?_;rintro e w3 ⟨xb,rs,rfl,hP,cE⟩;have HP:=zC hP;have gh:=zC ((zA ep).trans (cE.mono (zA ep).size));have dY:=zC (zxn hP);clear hP cE ep Ed;go_wp2_with fail;refine (zA dY).mono ?_;rintro e w4 ⟨rfl,bQ⟩;have wY:=zC ((zA HP).below bQ);have eC:=zC ((zA gh).trans (bQ.mono (zA gh).size));have lR:=zC (zA H3).rules;have GX:=zC (zA H3).again;have Ed:=zC (z3a w4 (bJ s) (zA H3).sz (zA H3).ok);generalize bJ s=x at *;clear bQ dY HP gh H3;go_wp2_with fail;refine (zA Ed).mono ?_;rintro e w5 ⟨yb,rq,rfl,hQ,eO⟩;have HQ:=zC hQ;have Bn:=zC ((zA wY).below eO);have jn:=zC ((zA eC).trans (eO.mono (zA eC).size));have dY:=zC (zxn hQ);rw[zA GX] at dY;clear hQ eO wY eC Ed GX;go_wp2_with fail;refine (zA dY).mono ?_;rintro e w6 ⟨rfl,iA⟩;have NS:=zC ((zA HQ).below iA);have Bo:=zC ((zA Bn).below iA);have mU:=zC ((zA jn).trans (iA.mono (zA jn).size));clear iA dY HQ Bn jn;go_wp2_with fail;refine (yb2 w6).mono ?_;rintro e w7 ⟨a7,c7,rfl,aE,mB⟩;have M1:qd w7 a7 c7 Ht:=qd.ib (by rw[zfq];exact aE);have kD:=M1.cap;have Np:=M1.max;rw[zfq] at kD;unfold maxLen at Np;have Eo:=zC ((zA NS).below mB);have Bp:=zC ((zA Bo).below mB);have iw:=zC ((zA mU).trans (mB.mono (zA mU).size))
 have zz:=(yI wh (n:=64) (by decide)).1;have H2:=zC (λ W=>zc9 W wh 64 (by decide) (by decide) (zA NU).1 (zA NU).2);generalize zH wh 64=ix at *;obtain⟨g7,rfl,kL,Ns⟩:=M1.at_ ix (by rw[zfq];exact zz);have hq:Ht[ix]'(by rw[zfq];exact zz)=aM (ix/16) (ix%16):=by
  have:=z9j zz;rw[List.getElem?_eq_getElem (by rw[zfq];exact zz)] at this;exact Option.some.inj this
 rw[hq] at Ns;have HX:=zC (ybf (zA HK).two ix);generalize aM (ix/16) (ix%16)=q at *;generalize thX ix=t at *;have Ou:(ix:Int)<64:=by omega
 have NO:=zC (show ∀ W,Below w7.heap.size w7 W->W.cell? ⟨g7,ix,none⟩=some (.string q)/\g7<W.heap.size from λ W h=>⟨(h.cell (p:=⟨g7,ix,none⟩) kL).trans Ns,Nat.lt_of_lt_of_le kL h.size⟩);have HE:=zC (zcl (zA Bp) q (zA HX).sz 50);clear hq mB aE M1 NS Bo mU;go_wp2_with fail;refine (zA H2 _).mono ?_;rintro e w8 ⟨rfl,Nz⟩;have Nz:=Nz.symm;subst Nz;go_wp2_with fail;refine (zA HE).mono ?_;rintro e w8 ⟨ho,ue⟩;obtain⟨v,hh,er,a,c8,bs,rfl,cw,sE⟩:=z7l (zA Bp) (zA Eo) (zA lR) (zA HX) ho;have oC:=zC sE;have tX:=(Below.refl w8.heap.size w8).alloc L9 (.cells #[.int .i64 (v:Nat),.int .i64 (hh:Nat),.slice a bs.length c8] 49);have hY:=heap_alloc_new w8 (.cells #[.int .i64 (v:Nat),.int .i64 (hh:Nat),.slice a bs.length c8] 49);have hsz:(w8.alloc (.cells #[.int .i64 (v:Nat),.int .i64 (hh:Nat),.slice a bs.length c8] 49)).heap.size=w8.heap.size+1:=by simp
 have fu:=ue.trans (tX.mono ue.size);have vn:=zC (zcl ((zA Eo).below fu) q (zA HX).sz 50);obtain⟨y1,y2⟩:=zA NO _ ue
 have Li:=zC (show ∀ w9,Below (w8.alloc (.cells #[.int .i64 (v:Nat),.int .i64 (hh:Nat),.slice a bs.length c8] 49)).heap.size (w8.alloc (.cells #[.int .i64 (v:Nat),.int .i64 (hh:Nat),.slice a bs.length c8] 49)) w9->Below w7.heap.size w7 w9/\w9.cell? ⟨w8.heap.size,0,none⟩=some (.int .i64 (v:Nat))/\w9.cell? ⟨w8.heap.size,1,none⟩=some (.int .i64 (hh:Nat))/\w9.cell? ⟨w8.heap.size,2,none⟩=some (.slice a bs.length c8)/\w8.heap.size<w9.heap.size/\w9.ownsRow w7.heap.size 5 1 (.slice a bs.length c8) bs.length (bs.map u8c) from λ w9 h9=>by
  have h8:=(h9.block w8.heap.size (by rw[hsz];omega)).trans hY;have IN:=h9.size;rw[hsz] at IN
  exact⟨fu.trans (h9.mono fu.size),by simp[World.cell?,h8],by simp[World.cell?,h8],by simp[World.cell?,h8],by omega,zG cw (tX.trans (h9.mono (by rw[hsz];omega))) (λ g e=>(cw.lt g e).2)⟩)
 clear sE ho ue tX hY hsz fu Ns kL cw;go_wp2_with fail;refine (zA H2 _).mono ?_;rintro e w9 ⟨rfl,gB⟩;have gB:=gB.symm;subst gB;go_wp2_with fail;refine (zA vn).mono ?_;rintro e w9 ⟨ho,Fj⟩;obtain⟨a',c9,rfl,nj⟩:=zA oC _ _ _ ho;obtain⟨fp,u0,u1,u2,u3,cw⟩:=zA Li w9 Fj;have cA:=zxa (cw.alloc (.cells #[.int .i64 (v:Nat),.int .i64 (hh:Nat),.slice a' bs.length c9] 49)) rfl;have cB:=zxa (nj.alloc (.cells #[.int .i64 (v:Nat),.int .i64 (hh:Nat),.slice a' bs.length c9] 49)) rfl;generalize strOfNums (bs.map λ (x:Nat)=>(x:Int)%256)=sw at *;have J6:(sw.toList==sw.toList)=true:=yB.2 rfl;have pL:(x.toList==x.toList)=true:=yB.2 rfl;have LP:=fp.alloc fp.size (.cells #[.int .i64 (v:Nat),.int .i64 (hh:Nat),.slice a' bs.length c9] 49);have fh:=zC ((zA iw).trans (LP.mono (zA iw).size));have qi:=zma (w9.alloc (.cells #[.int .i64 (v:Nat),.int .i64 (hh:Nat),.slice a' bs.length c9] 49)) s0 (zA fH);rw[zqk] at qi;have Ed:=zC qi;clear ho Fj fp LP qi cw nj Li HE vn oC NO H2 Bp Eo iw lR HX HK;generalize w8.heap.size=b8 at *;go_wp2_with fail;refine (zA Ed).mono ?_;rintro e Oy ⟨BI,cP,eJ⟩;have gx:=zC ((zA fh).trans (BI.mono (zA fh).size))
 cases hR:(z7 s0).1 with
 | false=>
  have he:=cP hR;have bG:=yeq hR;subst he;generalize (z7 s0).2.1=r1 at *;generalize (z7 s0).2.2=r2 at *;clear eJ cP BI Ed fh cA cB;go_wp2_with fail;go_ret;exact⟨rfl,zA gx⟩
 | true=>
  obtain⟨zb,rz,rfl,hp,hr⟩:=eJ hR;have hZ:aY s0 zb Oy _ rz:=⟨hR,hp,hr⟩;rw[ycr hR];have HZ:=zC hZ;have HR:=zC hR;have Nn:=zC (zxn hZ);clear eJ cP BI Ed fh cA cB hZ hp hr hR;go_wp2_with fail;refine (zA Nn).mono ?_;rintro e Oz ⟨rfl,BJ⟩;have iu:=zC ((zA gx).trans (BJ.mono (zA gx).size));have hlen:=ycl (zA HR)
  by_cases h8:800<(bJ s0).size
  ·have Oj:(800:Int)<((bJ s0).size:Nat):=(by omega);generalize bJ s0=z at *;clear Nn HZ BJ gx;go_wp2_with fail;go_ret;exact⟨rfl,zA iu⟩
  ·have Oj:¬ (800:Int)<((bJ s0).size:Nat):=(by omega);have hO:=zx8 (zA HR) (by omega);have NQ:=zC (z3a Oz (bJ s0) hO.sz hO.ok);have GX:=zC hO.again;generalize bJ s0=z at *;have AL:(z.toList==z.toList)=true:=yB.2 rfl;clear Nn HZ BJ gx hO;go_wp2_with fail;refine (zA NQ).mono ?_;rintro e w13 ⟨yb,ry,rfl,hY,LQ⟩;have Nl:=zC (zxn hY);rw[zA GX] at Nl;have qs:=zC ((zA iu).trans (LQ.mono (zA iu).size));clear hY LQ NQ iu GX;go_wp2_with fail;refine (zA Nl).mono ?_;rintro e w14 ⟨rfl,LR⟩;have Nk:=zC ((zA qs).trans (LR.mono (zA qs).size));clear LR Nl qs;go_wp2_with fail;go_ret;exact⟨rfl,zA Nk⟩
end
end Go.Proofs.YtldkpahaocjdpaaGreat
