/-
  The program's order of names: cmp.isNaN[string], cmp.Compare[string], the closure of List.
-/
import Derived.Test.YtldkpahaocjdpaaGreatS24
import Derived.Shelf.SlSortCmp.NoneTotal
import Derived.Deep.DeepAppendRoom
import Derived.ArgAppend
set_option maxHeartbeats 16000000
set_option maxRecDepth 1000000
namespace Go.Proofs.YtldkpahaocjdpaaGreat
section
open Go.RowKit Go.Maps Go.Sort
theorem ltOf_cmpB (x y:B8):ltOf cmpB x y=lessB x y:=by
 unfold ltOf cmpB
 cases lessB x y <;> cases x.toList==y.toList <;> simp
theorem isNaN_any (x:B8)(w:W8):Calls Tryz.prog 207 #[.string x] w λ e w'=>e=.returned (.bool false)/\w'=w:=by
 go_enter Tryz.func207,Tryz.ntmps207;go_wp2_with fail;go_ret;exact⟨by simp,rfl⟩
theorem compare_any (x y:B8)(w:W8):Calls Tryz.prog 162 #[.string x,.string y] w λ e w'=>e=.returned (.int .i64 (cmpB x y))/\w'=w:=by
 have hn:=isNaN_any;have hc:cmpB x y=if Op.bytesLess x.toList y.toList then -1 else if x.toList==y.toList then 0 else 1:=rfl;go_enter Tryz.func162,Tryz.ntmps162;go_wp2_with (go_at_call 207;refine (hn _ _).mono ?_;rintro e w' ⟨rfl,rfl⟩)
 ·rename_i h1;go_ret;refine⟨?_,rfl⟩;rw[show cmpB x y=-1 by rw[cmpB,lessB,h1];rfl];rfl
 ·rename_i h1 _ _ h2;go_ret;refine⟨?_,rfl⟩;rw[show cmpB x y=1 by rw[cmpB,lessB,h1];simp at h2 ⊢;exact h2];rfl
 ·rename_i h1 h2;go_ret;refine⟨?_,rfl⟩;rw[show cmpB x y=0 by rw[cmpB,lessB,h1];simp at h2 ⊢;exact h2];rfl
end
section
open Go.RowKit
variable {xs:V8} {size n g cap base:Nat} {e:TypeId} {w:W8}
theorem own_setCell (h:w.ownsRow base e size (.slice (some ⟨g,0,none⟩) n cap) n xs)(j:Nat)(u:Value):(w.setCell ⟨g,j,none⟩ u).ownsRow base e size (.slice (some ⟨g,0,none⟩) n cap) n (xs.set j u):=by
 obtain⟨h0,h1⟩:=h;refine⟨by simpa using h0,?_⟩;rcases h1 with⟨h1,_⟩ | ⟨g',oO,cur,hv,hb,hg,hn,hc,hs,ht⟩
 ·cases h1
 ·injection hv with h1 h2 h3
  injection h1 with h1
  injection h1 with h1
  subst h1 h3;refine .inr ⟨g,cap,_,rfl,hb,heap_setCell_same _ _ _ _ _ _ hg,hn,hc,by simpa using hs,?_⟩;rw[Array.toList_setIfInBounds,List.take_set,ht]
theorem own_unfrozen0 {m:Nat}(h:w.ownsRow base e size (.slice (some ⟨g,0,none⟩) n cap) m xs):∀ j,w.frozen? ⟨g,j,none⟩=false:=by
 intro j;rcases h.2 with⟨h1,_⟩ | ⟨g',oO,cur,hv,hb,hg,_⟩
 ·cases h1
 ·injection hv with h1 h2 h3
  injection h1 with h1
  injection h1 with h1
  subst h1;simp[World.frozen?,hg]
theorem row_cap0 (h:w.ownsRow base e size (.slice (some ⟨g,0,none⟩) n cap) n xs):n<=cap/\cap<=maxLen:=by
 rcases h.2 with⟨h1,_⟩ | ⟨g',oO,cur,hv,hb,hg,hn,hc,_⟩
 ·cases h1
 ·injection hv with h1 h2 h3
  subst h3;exact⟨hn,hc⟩
end
section
open Go.RowKit Go.Maps
theorem stV_some (ps:P9)(S:B8->Nat)(k:B8)(u:Value)(h:stV ps S k=some u):u=.agg #[.string k,.int .i64 (S k),.int .i64 ((numOf ps k).getD 0:Nat)]:=by
 unfold stV at h
 cases hn:numOf ps k with
 | none=>rw[hn] at h;cases h
 | some m=>rw[hn] at h;injection h with h;exact h.symm
end
section
variable {ms:List PMen} {rs:List RRule} {n:Nat}
theorem text_flat (h:bO n rs ms):∃ Q:List (RAtom × PMen),Q.map (·.1)=rs.flatMap RRule.atoms/\Q.map (·.2)=ms/\∀ x∈Q,∃ i,MenRel i x.1 x.2:=by
 induction h with
 | nil n=>exact⟨[],rfl,rfl,by simp⟩
 | cons h t ih=>
  obtain⟨q,q1,q2,q3⟩:=h;obtain⟨Q,Q1,Q2,Q3⟩:=ih;refine⟨q++Q,by simp[q1,Q1],by simp[q2,Q2],λ x hx=>?_⟩;rcases List.mem_append.1 hx with hx | hx
  ·exact⟨_,q3 x hx⟩
  ·exact Q3 x hx
theorem parity_eq:∀ (Q:List (RAtom × PMen)) (ps:P9),(∀ x∈Q,∃ i,MenRel i x.1 x.2)->parity (Q.map (·.2)) ps=(meetAll (Q.map (·.1)) ps).1
 | [],ps,_=>rfl
 | x::r,ps,h=>by
  obtain⟨i,hx⟩:=h x List.mem_cons_self;have ih:=λ ps'=>parity_eq r ps' (λ y hy=>h y (List.mem_cons_of_mem _ hy))
  have e1:x.2.ts.length=x.1.aW.length:=by rw[hx.ts];simp
  simp only[List.map_cons,parity,meetAll];rw[hx.pd,e1,ih,hx.place]
  split <;> rfl
def firstI {α:Type}(F:α->Int):List α->Int
 | []=>-1
 | x::r=>if 0<=F x then F x else firstI F r
theorem first_append {α:Type}(F:α->Int)(b:List α):∀ (a:List α),firstI F (a++b)=if 0<=firstI F a then firstI F a else firstI F b
 | []=>by simp[firstI]
 | x::r=>by
  rw[List.cons_append,firstI,firstI,first_append F b r]
  by_cases h:0<=F x
  ·simp[h]
  ·simp[h]
theorem text_first (h:bO n rs ms)(F:PMen->Int)(G:RRule->Int):(∀ i R ms',rs[i]?=some R->j3 (n+i) R.atoms ms'->firstI F ms'=G R)->firstI F ms=firstI G rs:=by
 induction h with
 | nil n=>intro _;rfl
 | @cons n R rs ms ms' h t ih=>
  intro hG;have h1:=hG 0 R ms rfl h
  have h2:=ih (λ i R' ms'' hi hm=>hG (i+1) R' ms'' (by simpa using hi) (by
   have e:n+(i+1)=n+1+i:=by omega
   rw[e];exact hm))
  rw[first_append,h1,h2,firstI]
theorem men_first {i:Nat}{l:List RAtom}(h:j3 i l ms)(F:PMen->Int)(G:RAtom->Int)(hG:∀ A∈l,∀ M,MenRel i A M->F M=G A):firstI F ms=firstI G l:=by
 obtain⟨q,rfl,rfl,q3⟩:=h
 induction q with
 | nil=>rfl
 | cons x r ih=>
  have h1:=hG x.1 (by simp) x.2 (q3 x List.mem_cons_self);have h2:=ih (λ A hA M hM=>hG A (List.mem_cons_of_mem _ hA) M hM) (λ y hy=>q3 y (List.mem_cons_of_mem _ hy));simp only[List.map_cons,firstI,h1,h2]
theorem has_eq (v:B8)(l:List RTerm):hasV v (l.map dH)=l.any (kf v):=by
 unfold hasV;rw[List.any_map];rfl
theorem binds_eq (v:B8)(body:List RAtom):bindsV v (body.map cH)=saidB v body:=by
 unfold bindsV saidB
 induction body with
 | nil=>rfl
 | cons A r ih=>
  rw[List.map_cons,List.filter_cons,List.any_cons,<-ih]
  cases hn:A.no with
  | true=>simp[cH,hn,saidA]
  | false=>simp[cH,hn,saidA,has_eq]
theorem loose_eq (body:List RAtom)(pl:Nat->Nat):∀ (l:List RTerm) (k:Nat),(∀ i (h:i<l.length),pl (k+i)=(l[i]).at_)->(match looseIx (body.map cH) (l.map dH) k with | some i=>(pl i:Int) | none=>-1)=looseI body l
 | [],k,_=>rfl
 | t::r,k,h=>by
  have ih:=loose_eq body pl r (k+1) (λ i hi=>by
   have:=h (i+1) (by simpa using hi)
   rw[show k+1+i=k+(i+1) by omega,this];simp)
  simp only[List.map_cons,looseIx,looseI];rw[show (dH t).1=t.isVar from rfl,show (dH t).2=t.text from rfl,binds_eq]
  by_cases hc:(t.isVar&&!saidB t.text body)=true
  ·rw[if_pos hc,if_pos hc];have:=h 0 (by simp);simp only[Nat.add_zero,List.getElem_cons_zero] at this;simp only[this]
  ·rw[if_neg hc,if_neg hc];exact ih
theorem loose_pos {body:List RAtom}{A:RAtom}(hA:A∈body)(hn:A.no=false):looseI body A.aW=-1:=by
 have key:∀ l:List RTerm,(∀ t∈l,t∈A.aW)->looseI body l=-1:=by
  intro l
  induction l with
  | nil=>intro _;rfl
  | cons t r ih=>
   intro h;rw[looseI,if_neg,ih (λ u hu=>h u (List.mem_cons_of_mem _ hu))]
   cases hv:t.isVar with
   | false=>simp
   | true=>
    have hs:saidB t.text body=true:=by
     unfold saidB;rw[List.any_eq_true];refine⟨A,hA,?_⟩;unfold saidA;rw[hn];simp only[Bool.not_false,Bool.true_and];rw[List.any_eq_true];exact⟨t,h t List.mem_cons_self,by simp[kf,hv]⟩
    simp[hs]
 exact key A.aW (λ t h=>h)
theorem looseBody_first (body:List RAtom):∀ l:List RAtom,(∀ A∈l,A∈body)->looseBody body l=firstI (λ A=>looseI body A.aW) l
 | [],_=>rfl
 | A::r,h=>by
  rw[looseBody,firstI,<-looseBody_first body r (λ B hB=>h B (List.mem_cons_of_mem _ hB))]
  cases hn:A.no with
  | true=>simp
  | false=>
   rw[loose_pos (h A List.mem_cons_self) hn];simp
theorem unsafe_first:∀ rs:List RRule,unsafeI rs=firstI looseRule rs
 | []=>rfl
 | R::r=>by rw[unsafeI,firstI,unsafe_first r]
def unbF (rs:List PRule)(M:PMen):Int:=match looseIx (bodyAt rs M.num) M.ts 0 with | some i=>(M.pl i:Int) | none=>-1
theorem unbound_first (rs:List PRule):∀ ms:List PMen,unboundI rs ms=firstI (unbF rs) ms
 | []=>rfl
 | M::r=>by
  rw[unboundI,firstI,<-unbound_first rs r];unfold unbF
  cases looseIx (bodyAt rs M.num) M.ts 0 with
  | none=>simp
  | some i=>simp
theorem unbound_eq (h:bO 0 rs ms):unboundI (rs.map pruleOf) ms=unsafeI rs:=by
 rw[unbound_first,unsafe_first];refine text_first h _ _ (λ i R ms' hi hm=>?_);rw[Nat.zero_add] at hm;have hb:bodyAt (rs.map pruleOf) i=R.body.map cH:=by
  unfold bodyAt;rw[List.getElem?_map,hi];rfl
 rw[men_first hm (unbF (rs.map pruleOf)) (λ A=>looseI R.body A.aW) (λ A _ M hM=>?_)]
 ·unfold RRule.atoms looseRule;rw[firstI,looseBody_first R.body R.body (λ A hA=>hA)]
 ·unfold unbF;rw[hM.num,hb,hM.ts];exact loose_eq R.body M.pl A.aW 0 (λ i hi=>by rw[Nat.zero_add];exact hM.pl i hi)
theorem ix_name (nm:B8):∀ (l:P9) (k:Nat),0<=ixFrom nm l k->(l.getD (ixFrom nm l k-k).toNat (nm,0)).1=nm
 | [],k,h=>by simp[ixFrom] at h
 | x::r,k,h=>by
  unfold ixFrom at h ⊢
  by_cases hx:(x.1.toList==nm.toList)=true
  ·rw[if_pos hx];simp;exact aN.1 hx
  ·rw[if_neg hx] at h ⊢;have ih:=ix_name nm r (k+1) h;have:=(ix_lt nm r (k+1) h).1;have e:(ixFrom nm r (k+1)-(k:Int)).toNat=(ixFrom nm r (k+1)-((k+1:Nat):Int)).toNat+1:=(by omega);rw[e];simpa using ih
def nmOf (ps:P9)(i:Nat):B8:=(ps.getD i ({ data:=#[] },0)).1
variable {ps:P9}
theorem nm_ix {x:B8}(h:0<=predIx ps x):nmOf ps (ixOf ps x)=x:=by
 have h1:=ix_name x ps 0 h;have bS:=predIx_lt h;unfold nmOf ixOf;rw[show ixFrom x ps 0=predIx ps x from rfl] at h1;simp only[Int.natCast_zero,Int.sub_zero] at h1;rw[List.getD_eq_getElem?_getD,List.getElem?_eq_getElem bS] at h1 ⊢;simpa using h1
variable {a b:B8}
theorem ix_same (ha:0<=predIx ps a)(hb:0<=predIx ps b):(predIx ps a==predIx ps b)=(a.toList==b.toList):=by
 rw[Bool.eq_iff_iff]
 constructor
 ·intro h;have h1:predIx ps a=predIx ps b:=by simpa using h
  have h2:=nm_ix ha;rw[show ixOf ps a=ixOf ps b by unfold ixOf;rw[h1],nm_ix hb] at h2;rw[h2];simp
 ·intro h;rw[aN.1 h];simp
theorem mem_edges {x y:B8}:(x,y)∈edgesP (rs.map pruleOf)↔∃ R∈rs,∃ A∈R.body,x=R.head.pred/\y=A.pred:=by
 unfold edgesP edgesB
 constructor
 ·intro h;obtain⟨P,hP,h⟩:=List.mem_flatMap.1 h;obtain⟨R,hR,rfl⟩:=List.mem_map.1 hP;obtain⟨L,hL,h⟩:=List.mem_map.1 h;obtain⟨A,hA,rfl⟩:=List.mem_map.1 hL;injection h with h1 h2
  exact⟨R,hR,A,hA,h1.symm,h2.symm⟩
 ·rintro⟨R,hR,A,hA,rfl,rfl⟩;exact List.mem_flatMap.2 ⟨pruleOf R,List.mem_map_of_mem hR,List.mem_map.2 ⟨cH A,List.mem_map_of_mem hA,rfl⟩⟩
theorem edgesR_sound {ps:P9}{h:Nat}:∀ (l:List RAtom) {M:Nat->Nat->Bool} {a b:Nat},edgesR ps h l M a b=true->M a b=true\/(a=h/\∃ A∈l,b=ixOf ps A.pred)
 | [],M,a,b,hm=>.inl hm
 | A::r,M,a,b,hm=>by
  rcases edgesR_sound r hm with h1 | ⟨h1,B,hB,h2⟩
  ·unfold upd at h1;simp at h1;rcases h1 with⟨h1,h2⟩ | h1
   ·exact .inr ⟨h1,A,List.mem_cons_self,h2⟩
   ·exact .inl h1
  ·exact .inr ⟨h1,B,List.mem_cons_of_mem _ hB,h2⟩
theorem edges_sound {ps:P9}:∀ (l:List RRule) {M:Nat->Nat->Bool} {a b:Nat},edges ps l M a b=true->M a b=true\/∃ R∈l,a=ixOf ps R.head.pred/\∃ A∈R.body,b=ixOf ps A.pred
 | [],M,a,b,hm=>.inl hm
 | R::r,M,a,b,hm=>by
  rcases edges_sound r hm with h1 | ⟨R',hR,h1⟩
  ·rcases edgesR_sound R.body h1 with h2 | ⟨h2,A,hA,h3⟩
   ·exact .inl h2
   ·exact .inr ⟨R,List.mem_cons_self,h2,A,hA,h3⟩
  ·exact .inr ⟨R',List.mem_cons_of_mem _ hR,h1⟩
theorem fwM_sound (P:Nat->Nat->Prop)(hP:∀ a b c,P a b->P b c->P a c)(n:Nat):∀ (d m:Nat) (M:Nat->Nat->Bool),n-m=d->(∀ a b,M a b=true->P a b)->∀ a b,fwM n M m a b=true->P a b:=by
 intro d
 induction d with
 | zero=>
  intro m M hd hM a b h;rw[fwM_end (by omega)] at h;exact hM a b h
 | succ d ih=>
  intro m M hd hM a b h;rw[fwM_go (by omega)] at h;refine ih (m+1) _ (by omega) (λ x y ku=>?_) a b h;rw[fwI_eq n m (n-0) 0 M rfl] at ku;simp at ku;rcases ku with h1 | h1
  ·exact hM x y h1
  ·exact hP x m y (hM x m h1.1.2) (hM m y h1.2)
theorem reach_trans {E:List Edge}{c:B8}(h:Reach E a b)(t:Reach E b c):Reach E a c:=by
 induction t with
 | one h1=>exact .next h h1
 | next _ h1 ih=>exact .next ih h1
theorem hangs_eq (bn:AllIn ps (rs.flatMap RRule.atoms))(ha:0<=predIx ps a)(hb:0<=predIx ps b):hangsP (edgesP (rs.map pruleOf)) a b=hangsM ps rs (ixOf ps a) (ixOf ps b):=by
 have yx:∀ R∈rs,0<=predIx ps R.head.pred:=λ R hR=>bn _ (List.mem_flatMap.2 ⟨R,hR,List.mem_cons_self⟩)
 have jc:∀ R∈rs,∀ A∈R.body,0<=predIx ps A.pred:=λ R hR A hA=>bn _ (List.mem_flatMap.2 ⟨R,hR,List.mem_cons_of_mem _ hA⟩)
 rw[Bool.eq_iff_iff];unfold hangsP;simp only[decide_eq_true_eq]
 constructor
 ·intro h;have key:∀ y,Reach (edgesP (rs.map pruleOf)) a y->hangsM ps rs (ixOf ps a) (ixOf ps y)=true/\0<=predIx ps y:=by
   intro y hy
   induction hy with
   | one h1=>
    obtain⟨R,hR,A,hA,rfl,rfl⟩:=mem_edges.1 h1;exact⟨gj hR hA,jc R hR A hA⟩
   | next t h1 ih=>
    obtain⟨R,hR,A,hA,rfl,rfl⟩:=mem_edges.1 h1;exact⟨hangs_trans (predIx_lt ha) (predIx_lt ih.2) (predIx_lt (jc R hR A hA)) ih.1 (gj hR hA),jc R hR A hA⟩
  exact (key b h).1
 ·intro h;have:=fwM_sound (λ i j=>Reach (edgesP (rs.map pruleOf)) (nmOf ps i) (nmOf ps j)) (λ _ _ _=>reach_trans) ps.length ps.length 0 (edges ps rs (λ _ _=>false)) rfl (λ i j hij=>?_) _ _ h
  ·rw[nm_ix ha,nm_ix hb] at this;exact this
  ·rcases edges_sound rs hij with h1 | ⟨R,hR,rfl,A,hA,rfl⟩
   ·cases h1
   ·simp only[nm_ix (yx R hR),nm_ix (jc R hR A hA)];exact .one (mem_edges.2 ⟨R,hR,A,hA,rfl,rfl⟩)
theorem cycBody_first (ps:P9)(H:Nat->Nat->Bool)(hd:B8):∀ l:List RAtom,cycBody ps H hd l=firstI (λ A=>if cycB ps H hd A then (A.rE:Int) else -1) l
 | []=>rfl
 | A::r=>by
  rw[cycBody,firstI,<-cycBody_first ps H hd r]
  by_cases h:cycB ps H hd A=true
  ·simp[h]
  ·simp[h]
theorem cycleI_first (ps:P9)(H:Nat->Nat->Bool):∀ rs:List RRule,cycleI ps H rs=firstI (λ R=>cycBody ps H R.head.pred R.body) rs
 | []=>rfl
 | R::r=>by rw[cycleI,firstI,cycleI_first ps H r]
theorem cycleP_first (rs:List PRule):∀ ms:List PMen,cycleP rs ms=firstI (λ M=>if cycM rs M then (M.start:Int) else -1) ms
 | []=>rfl
 | M::r=>by
  rw[cycleP,firstI,<-cycleP_first rs r]
  by_cases h:cycM rs M=true
  ·simp[h]
  ·simp[h]
theorem cycle_eq (h:bO 0 rs ms)(bn:AllIn ps (rs.flatMap RRule.atoms))(cC:∀ R∈rs,R.head.no=false):cycleP (rs.map pruleOf) ms=cycleI ps (hangsM ps rs) rs:=by
 rw[cycleP_first,cycleI_first];refine text_first h _ _ (λ i R ms' hi hm=>?_);rw[Nat.zero_add] at hm;have hR:R∈rs:=List.mem_of_getElem? hi;have hh:headAt (rs.map pruleOf) i=R.head.pred:=by
  unfold headAt;rw[List.getElem?_map,hi];rfl
 have hp:=bn R.head (List.mem_flatMap.2 ⟨R,hR,List.mem_cons_self⟩);rw[men_first hm _ (λ A=>if cycB ps (hangsM ps rs) R.head.pred A then (A.rE:Int) else -1) (λ A hA M hM=>?_)]
 ·unfold RRule.atoms;rw[firstI,cycBody_first];have:cycB ps (hangsM ps rs) R.head.pred R.head=false:=by unfold cycB;rw[cC R hR];rfl
  simp[this]
 ·have yX:=bn A (List.mem_flatMap.2 ⟨R,hR,hA⟩);have e:cycM (rs.map pruleOf) M=cycB ps (hangsM ps rs) R.head.pred A:=by
   unfold cycM cycB;rw[hM.num,hh,hM.neg,hM.pd,hangs_eq bn yX hp,ix_same yX hp]
  simp only[e]
  by_cases hc:cycB ps (hangsM ps rs) R.head.pred A=true
  ·rw[if_pos hc,if_pos hc];have:A.no=true:=by unfold cycB at hc;simp at hc;exact hc.1
   rw[hM.start this]
  ·rw[if_neg hc,if_neg hc]
theorem rules_head {s:B8}(f:Nat):∀ {p:Nat} {bd:Int} {l:List RRule},(∀ R∈l,R.head.no=false)->∀ R∈(rulesS s f p bd l).1,R.head.no=false:=by
 induction f with
 | zero=>intro p bd l h;exact h
 | succ f ih=>
  intro p bd l h;rw[rulesS]
  split
  ·refine ih (λ R hR=>?_);rcases List.mem_append.1 hR with hR | hR
   ·exact h R hR
   ·simp at hR;subst hR;rfl
  ·exact h
theorem load_eq (s:B8):pload s=refLoad s:=by
 unfold pload refLoad
 by_cases c0:800<s.size
 ·rw[if_pos c0,if_pos c0]
 ·rw[if_neg c0,if_neg c0]
  cases c1:(pparsed s).1 with
  | false=>
   have h:=(parsed_eq s).2 c1;rw[if_pos rfl,h,if_pos (by omega)]
  | true=>
   obtain⟨h1,h2,h3⟩:=(parsed_eq s).1 c1;rw[if_neg (show ¬ (true=false) by decide),h1,if_neg (show ¬ ((0:Int)<=-1) by decide),h2];obtain⟨Q,Q1,Q2,Q3⟩:=text_flat h3;have ea:parity (pparsed s).2.2.2 []=(aq s).1:=by
    unfold aq;rw[<-Q1,<-Q2];exact parity_eq Q [] Q3
   have eu:=unbound_eq h3;unfold faultP;rw[ea,eu]
   by_cases c2:0<=(aq s).1
   ·simp[c2]
   ·have bn:AllIn (aq s).2 ((parsed s).1.flatMap RRule.atoms):=allIn_of_meet _ c2;have ec:=cycle_eq h3 bn (rules_head 31 (by simp));rw[ec];rw[if_neg c2,if_neg c2]
    by_cases c3:0<=unsafeI (parsed s).1
    ·simp[c3]
    ·rw[if_neg c3,if_neg c3]
     by_cases c4:0<=cycleI (aq s).2 (hangsM (aq s).2 (parsed s).1) (parsed s).1
     ·simp[c4]
     ·simp[c4]
end
section
open Go.RowKit Go.Maps
variable {ps:P9}
theorem validN_of {rs:List RRule}{f:Nat->Nat}(h:Valid ps rs f):ValidN (rs.map pruleOf) (λ k=>f (ixOf ps k)):=by
 intro R hR l hl;obtain⟨Q,hQ,rfl⟩:=List.mem_map.1 hR;obtain⟨A,hA,rfl⟩:=List.mem_map.1 hl;exact h Q hQ A hA
def Once (ps:P9):Prop:=(ps.map (·.1)).Nodup
theorem ix_out {nm:B8}:∀ {l:P9} {k:Nat},ixFrom nm l k<0->∀ p∈l,p.1≠nm
 | [],_,_,p,hp=>by cases hp
 | x::r,k,h,p,hp=>by
  rw[ixFrom] at h
  split at h
  ·omega
  ·rename_i hx;rcases List.mem_cons.1 hp with rfl | hp
   ·exact λ e=>hx (aN.2 e)
   ·exact ix_out h p hp
theorem once_meet (h:Once ps)(nm:B8)(n:Nat):Once (meetP ps nm n):=by
 unfold meetP
 split
 ·rename_i hx;unfold Once;rw[List.map_append,List.nodup_append];refine⟨h,by simp,λ a ha b hb e=>?_⟩;obtain⟨p,hp,rfl⟩:=List.mem_map.1 ha;simp at hb;exact ix_out hx p hp (e.trans hb)
 ·exact h
theorem once_meetL:∀ (l ps:P9),Once ps->Once (meetL l ps)
 | [],_,h=>h
 | x::r,_,h=>once_meetL r _ (once_meet h x.1 x.2)
end
section
open Go.RowKit Go.Maps
theorem meetAll_ok:∀ (l:List RAtom) (ps:P9),(meetAll l ps).1<0->AgreeL (l.map λ A=>(A.pred,A.aW.length)) ps/\(meetAll l ps).2=meetL (l.map λ A=>(A.pred,A.aW.length)) ps
 | [],_,_=>⟨trivial,rfl⟩
 | A::r,ps,h=>by
  rw[meetAll] at h ⊢
  split at h
  ·rename_i hb;rw[if_pos hb];obtain⟨h1,h2⟩:=meetAll_ok r _ h;exact⟨⟨hb,h1⟩,h2⟩
  ·exfalso;simp only at h;omega
theorem patoms_of (R:RRule):bg (pruleOf R)=R.atoms.map λ A=>(A.pred,A.aW.length):=by
 simp[bg,pruleOf,RRule.atoms,cH]
theorem patoms_all (rs:List RRule):(rs.map pruleOf).flatMap bg=(rs.flatMap RRule.atoms).map λ A=>(A.pred,A.aW.length):=by
 induction rs with
 | nil=>rfl
 | cons R r ih=>rw[List.map_cons,List.flatMap_cons,List.flatMap_cons,List.map_append,ih,patoms_of]
theorem meetP_len (ps:P9)(nm:B8)(n:Nat):(meetP ps nm n).length<=ps.length+1:=by
 unfold meetP;split <;> simp
theorem meetL_len:∀ (l ps:P9),(meetL l ps).length<=ps.length+l.length
 | [],_=>Nat.le_refl _
 | x::r,ps=>by
  have h1:=meetL_len r (meetP ps x.1 x.2);have h2:=meetP_len ps x.1 x.2;rw[meetL,List.length_cons];omega
theorem prules_len (s:B8)(f:Nat):∀ {p:Nat} {rs:List PRule} {ms:List PMen},rs.length<=30->(prulesS s f p rs ms).2.2.1.length<=30:=by
 induction f with
 | zero=>intro p rs ms h;exact h
 | succ f ih=>
  intro p rs ms h;rw[prulesS]
  split
  ·exact h
  ·split
   ·exact h
   ·split
    ·refine ih ?_;rw[List.length_append,List.length_singleton];omega
    ·exact h
theorem flat_len {α β:Type}(f:α->List β)(c:Nat):∀ (l:List α),(∀ x∈l,(f x).length<=c)->(l.flatMap f).length<=c*l.length
 | [],_=>Nat.zero_le _
 | x::r,h=>by
  have h1:=h x List.mem_cons_self;have h2:=flat_len f c r λ y hy=>h y (List.mem_cons_of_mem _ hy)
  rw[List.flatMap_cons,List.length_append,List.length_cons,Nat.mul_add,Nat.mul_one];omega
structure Good (s:B8)(rs:List PRule)(ps:P9):Prop where
 rules:rs=(parsed s).1.map pruleOf
 Gs:ps=(aq s).2
 len:rs.length<=30
 body:∀ R∈rs,R.body.length<=3
 pd:∀ R∈rs,R.pd.size<=800
 vW:∀ R∈rs,∀ l∈R.body,l.pd.size<=800
 agree:AgreeL (rs.flatMap bg) []
 met:meetL (rs.flatMap bg) []=ps
 fG:ps.length<=120
 all:AllIn ps ((parsed s).1.flatMap RRule.atoms)
 once:Once ps
 some_:∃ f,ValidN rs f/\∀ k,f k<=1000
variable {s:B8}
theorem good_of (h:(refLoad s).1=true):Good s (pparsed s).2.2.1 (aq s).2:=by
 unfold refLoad at h
 by_cases c0:800<s.size
 ·rw[if_pos c0] at h;cases h
 rw[if_neg c0] at h
 by_cases c1:0<=(parsed s).2.2
 ·rw[if_pos c1] at h;cases h
 rw[if_neg c1] at h
 by_cases c2:0<=(aq s).1
 ·rw[if_pos c2] at h;cases h
 rw[if_neg c2] at h
 by_cases c3:0<=unsafeI (parsed s).1
 ·rw[if_pos c3] at h;cases h
 rw[if_neg c3] at h
 by_cases c4:0<=cycleI (aq s).2 (hangsM (aq s).2 (parsed s).1) (parsed s).1
 ·rw[if_pos c4] at h;cases h
 obtain⟨e1,e2⟩:=parsed_eq s;have hp:(pparsed s).1=true:=by
  cases hq:(pparsed s).1 with
  | true=>rfl
  | false=>exfalso;have:=e2 hq;omega
 obtain⟨_,er,_⟩:=e1 hp;obtain⟨o1,_⟩:=pparsed_ok s (by omega) hp;have hlen:(pparsed s).2.2.1.length<=30:=prules_len s 31 (by simp);have bn:AllIn (aq s).2 ((parsed s).1.flatMap RRule.atoms):=allIn_of_meet _ c2;obtain⟨m1,m2⟩:=meetAll_ok ((parsed s).1.flatMap RRule.atoms) [] (by unfold aq at c2;omega);have yX:(pparsed s).2.2.1.flatMap bg=((parsed s).1.flatMap RRule.atoms).map λ A=>(A.pred,A.aW.length):=by rw[er,patoms_all]
 have uD:meetL ((pparsed s).2.2.1.flatMap bg) []=(aq s).2:=by rw[yX];exact m2.symm
 have lJ:=flat_len bg 4 (pparsed s).2.2.1 (λ R hR=>by have:=(o1 R hR).2.1;simp[bg];omega);have ed:=meetL_len ((pparsed s).2.2.1.flatMap bg) [];rw[uD] at ed;have gL:(aq s).2.length<=120:=by rw[List.length_nil] at ed;omega
 obtain⟨f,hf,je⟩:=valid_of_cycle _ _ bn c4;exact⟨er,rfl,hlen,λ R hR=>(o1 R hR).2.1,λ R hR=>(o1 R hR).1,λ R hR=>(o1 R hR).2.2,by rw[yX];exact m1,uD,gL,bn,by rw[<-uD];exact once_meetL _ [] List.nodup_nil,⟨λ k=>f (ixOf (aq s).2 k),by rw[er];exact validN_of hf,λ k=>Nat.le_trans (je (ixOf (aq s).2 k)) (by omega)⟩⟩
theorem Good.named {rs:List PRule}{ps:P9}(h:Good s rs ps):∀ R∈rs,(∃ n,numOf ps R.pd=some n)/\∀ l∈R.body,∃ n,numOf ps l.pd=some n:=by
 intro R hR;rw[h.rules] at hR;obtain⟨Q,hQ,rfl⟩:=List.mem_map.1 hR;refine⟨⟨_,(num_ix _ ps 0).2 (h.all _ (List.mem_flatMap.2 ⟨Q,hQ,List.mem_cons_self⟩))⟩,λ l hl=>?_⟩;obtain⟨A,hA,rfl⟩:=List.mem_map.1 hl;exact⟨_,(num_ix _ ps 0).2 (h.all _ (List.mem_flatMap.2 ⟨Q,hQ,List.mem_cons_of_mem _ hA⟩))⟩
end
section
open Go.RowKit
theorem rtermsT_len:∀ (ts:List (Bool × B8)) (i:Nat),(∀ t∈ts,t.2.size<=1000)->(termsT ts i).length<=ts.length*1001
 | [],_,_=>by simp[termsT]
 | t::r,i,h=>by
  have h1:=rtermsT_len r (i+1) (λ x hx=>h x (List.mem_cons_of_mem _ hx));have h2:=h t List.mem_cons_self;rw[termsT,List.length_cons,List.length_append,List.length_cons,Nat.succ_mul];have:t.2.data.toList.length=t.2.size:=size_list _;omega
end
section
open Go.RowKit Go.Maps
structure CntIn (w:W8)(tb n:Nat)(ps:P9)(S:B8->Nat)(Lf:B8->Prop)(m dP:Nat)(wr:W8):Prop where
 rg:gi Tryz.prog 9 wr tb w.heap.size n (stV ps S) Lf dP
 lo:∀ k,(stV ps S k).isSome=true->¬ Lf k->S k+1<=m
 hi:m=0\/∃ k,(stV ps S k).isSome=true/\m=S k+1
 k:Below w.heap.size w wr
def IsCount (ps:P9)(S:B8->Nat)(m:Nat):Prop:=(∀ k,(numOf ps k).isSome=true->S k+1<=m)/\(m=0\/∃ k,(numOf ps k).isSome=true/\m=S k+1)
theorem iO (ps:P9)(S:B8->Nat)(k:B8):(stV ps S k).isSome=(numOf ps k).isSome:=by unfold stV;cases numOf ps k <;> rfl
theorem count_any (w:W8)(tb n:Nat)(ps:P9)(S:B8->Nat)(h:SMap Tryz.prog 9 w tb n (stV ps S))(hS:∀ k,(numOf ps k).isSome=true->S k<=1000000):
  Calls Tryz.prog 59 #[.map (some tb)] w λ en w'=>∃ m:Nat,en=.returned (.int .i64 (m:Nat))/\IsCount ps S m/\Below w.heap.size w w':=by
 have HS:=hide hS;have gq:=h.lt;clear hS;go_enter Tryz.func59,Tryz.ntmps59;go_wp2_with (first | (at_range;refine wp_range _ rfl _ 73 rfl 9 185 Tryz.underlying9 Tryz.underlying73 tb n (stV ps S) rfl h ?_;intro w0 cnt0 hrg0 Al nE nL) | go_in)
 try go_frame
 have h0:CntIn w tb n ps S (λ k=>(stV ps S k).isSome=true) 0 cnt0 w0:=⟨hrg0,λ k h1 h2=>absurd h1 h2,.inl rfl,⟨nE.os,nE.tape,nE.output,by omega,λ j hj=>nE.block j hj (by simp)⟩⟩;have H0:=hide h0;clear hrg0 Al nE nL h h0
 go_loopg [3] cnt0 (λ gg c wr=>∃ (m:Nat) (Lf:B8->Prop),c=.int .i64 (m:Nat)/\CntIn w tb n ps S Lf m gg wr)
 exact⟨0,_,rfl,ad H0⟩
 case round=>
  clear H0;obtain⟨m,Lf,rfl,ak⟩:=hrel;have jg:=ak.rg;have bp:=hide ak;clear ak;go_wp2_with (first | (at_next;refine wp_next _ rfl _ rfl 9 Tryz.underlying9 tb w.heap.size n (stV ps S) _ gk (λ k=>.agg #[.string k,.int .i64 (S k),.int .i64 ((numOf ps k).getD 0:Nat)]) (stV_some ps S) rfl jg ?_ ?_) | go_in)
  ·intro cF;have HD:=hide cF;clear cF jg;go_wp2_with fail;go_ret;have ak:=ad bp;exact⟨m,rfl,⟨λ k hk=>ak.lo k (by rw[iO];exact hk) (ad HD k),ak.hi.imp id λ ⟨k,h1,h2⟩=>⟨k,by rw[<-iO ps S];exact h1,h2⟩⟩,ak.k⟩
  ·intro k w1 cnt1 uS hVk hrg1 bS ft jT ou;have nN:(stV ps S k).isSome=true:=(by rw[hVk];rfl);have qZ:=ad HS k (by rw[<-iO ps S];exact nN);have Hs:=hide hrg1;have GY:=hide ft;have Hx:=hide nN;have HV1:=hide uS;have ak:=ad bp;have br:=ak.k.size;clear jT jg hrg1 ft hVk nN ak uS;have ox:m<=1000001:=by
    rcases (ad bp).hi with h | ⟨j,hj,h⟩
    ·omega
    ·have:=ad HS j (by rw[<-iO ps S];exact hj);omega
   go_wp2_with fail;go_roundg cnt1
   case measure=>omega
   case rel=>
    have ak:=ad bp;have g1:=ad GY;have b1:Below w.heap.size w w1:=⟨g1.os.trans ak.k.os,g1.tape.trans ak.k.tape,g1.output.trans ak.k.output,Nat.le_trans ak.k.size g1.size,λ i hi=>(g1.block i (by omega) (by simp;omega)).trans (ak.k.block i hi)⟩;refine⟨max m (S k+1),_,by congr 1;omega,(ad Hs).alloc _,λ x hx hn=>?_,?_,b1.alloc b1.size _⟩
    ·by_cases e:x=k
     ·subst e;omega
     ·have:=ak.lo x hx (λ h=>hn ⟨h,e⟩);omega
    ·rcases Nat.le_total m (S k+1) with h | h
     ·right;exact⟨k,ad Hx,by omega⟩
     ·rw[Nat.max_eq_left h];exact ak.hi
end
section
open Go.RowKit Go.Maps
theorem plist_any (w:W8)(b:Nat)(v:Value)(a:O8)(n c:Nat)(hv:v=.slice a n c)(hb:w.cell? ⟨b,0,none⟩=some v):
  Calls Tryz.prog 36 #[.pointer (some ⟨b,0,none⟩)] w λ e w'=>e=.returned (.slice a n c)/\w'=w:=by
 subst hv;go_enter Tryz.func36,Tryz.ntmps36;go_wp2_with fail;go_ret;exact⟨rfl,rfl⟩
end
end Go.Proofs.YtldkpahaocjdpaaGreat
