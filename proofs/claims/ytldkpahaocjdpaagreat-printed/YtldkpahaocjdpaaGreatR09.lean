/-
  Plain: both readers read the same: the same atoms, literals, rules; or they stop at the same place.
-/
import Derived.Test.YtldkpahaocjdpaaGreatR08
set_option maxHeartbeats 16000000
set_option maxRecDepth 1000000
namespace Go.Proofs.YtldkpahaocjdpaaGreat
section
variable {bd:Int} {p:Nat} {s:B8}
theorem take_pos (h:0<=bd):takeBad s p bd=bd/\cW s p bd=p:=by
 have e:failS s p bd=bd:=by unfold failS;rw[if_neg (by omega)]
 have e1:takeBad s p bd=bd:=by unfold takeBad;split;exact e;rfl
 exact⟨e1,by unfold cW;rw[e1,if_neg (by omega)]⟩
theorem fail_pos (h:0<=bd):failS s p bd=bd:=by unfold failS;rw[if_neg (by omega)]
variable {wd:B8}
theorem isS_pos (h:0<=bd):isS s p bd wd=false:=by
 unfold isS;simp;intro h1;omega
theorem has_pos (h:0<=bd):hasPos s p bd wd=p/\hasBad s p bd wd=bd:=by
 unfold hasPos hasBad;rw[isS_pos h];exact⟨rfl,rfl⟩
theorem need_pos (h:0<=bd):needBad0 s p bd wd=bd:=by
 unfold needBad0;rw[isS_pos h];exact fail_pos h
theorem atom_pos (h:0<=bd):(atomRest s p bd).2.2=bd:=by
 have e1:atomBad1 s p bd=bd:=by unfold atomBad1;split;exact fail_pos h;rfl
 have e2:atomBad2 s p bd=bd:=by unfold atomBad2;rw[e1];exact (take_pos h).1
 unfold atomRest;rw[e2,isS_pos h];exact (has_pos h).2
theorem lit_pos (h:0<=bd):(litRest s p bd).2=bd:=by
 have e1:litNo s p bd=false:=by unfold litNo;simp;intro h1;omega
 unfold litRest litBad litPos;rw[e1];exact atom_pos h
theorem take_neg (h:bd<0)(h1:(tok s p).kind≠33)(h2:(tok s p).kind≠46):takeBad s p bd=bd/\cW s p bd=(tok s p).to:=by
 have e1:takeBad s p bd=bd:=by unfold takeBad;rw[if_neg (by simp[h1,h2])]
 exact⟨e1,by unfold cW;rw[e1,if_pos h]⟩
theorem fail_neg (h:bd<0):failS s p bd=(tok s p).at_:=by unfold failS;rw[if_pos h]
theorem isS_iff (h:bd<0):isS s p bd wd=true↔((tok s p).kind=115/\(tok s p).text.toList=wd.toList):=by
 unfold isS;simp[h]
theorem isS_no (h:bd<0)(hn:¬ ((tok s p).kind=115/\(tok s p).text.toList=wd.toList)):isS s p bd wd=false:=by
 cases e:isS s p bd wd with
 | false=>rfl
 | true=>exact absurd ((isS_iff h).1 e) hn
theorem has_neg (h:bd<0)(hy:(tok s p).kind=115/\(tok s p).text.toList=wd.toList):hasPos s p bd wd=(tok s p).to/\hasBad s p bd wd=bd:=by
 have e:=(isS_iff (wd:=wd) h).2 hy;have t:=take_neg h (by rw[hy.1];decide) (by rw[hy.1];decide);unfold hasPos hasBad;rw[e];exact⟨t.2,t.1⟩
theorem has_not (h:bd<0)(hn:¬ ((tok s p).kind=115/\(tok s p).text.toList=wd.toList)):hasPos s p bd wd=p/\hasBad s p bd wd=bd:=by
 unfold hasPos hasBad;rw[isS_no h hn];exact⟨rfl,rfl⟩
theorem chr_list (c:UInt8):(chr c).toList=[c]:=by
 rw[ByteArray.toList_eq]
def dI (t:RTerm):Bool × B8:=(t.isVar,t.text)
variable {l:List RTerm}
theorem terms_bad1 (f:Nat)(h:bd<0)(hn:¬ ((tok s p).kind=110\/(tok s p).kind=118)\/l.length=4):(termsS s (f+1) p bd l).2.2=(tok s p).at_:=by
 have e:termBad s p bd l.length=(tok s p).at_:=by
  unfold termBad;rw[if_pos,fail_neg h];rcases hn with hn | hn
  ·simp[not_or.1 hn]
  ·simp[hn]
 have h0:(0:Int)<=(tok s p).at_:=by omega
 rw[termsS];simp only[e,(take_pos h0).1,(take_pos h0).2,isS_pos h0,(has_pos h0).1,(has_pos h0).2,need_pos h0];rfl
theorem terms_go (f:Nat)(h:bd<0)(hk:(tok s p).kind=110\/(tok s p).kind=118)(hl:l.length≠4)(hc:(tok s (tok s p).to).kind=115/\(tok s (tok s p).to).text.toList=[44]):
  termsS s (f+1) p bd l=termsS s f (tok s (tok s p).to).to bd (l++[termOf s p]):=by
 have e:termBad s p bd l.length=bd:=by
  unfold termBad;rw[if_neg];rcases hk with hk | hk <;> simp[hk,hl]
 have t:=take_neg h (p:=p) (s:=s) (by rcases hk with hk | hk <;> rw[hk] <;> decide) (by rcases hk with hk | hk <;> rw[hk] <;> decide);rw[<-chr_list] at hc;rw[termsS];simp only[e,t.1,t.2,(has_neg h hc).1,(has_neg h hc).2,(isS_iff h).2 hc,if_true]
theorem terms_end (f:Nat)(h:bd<0)(hk:(tok s p).kind=110\/(tok s p).kind=118)(hl:l.length≠4)(hc:¬ ((tok s (tok s p).to).kind=115/\(tok s (tok s p).to).text.toList=[44])):
  termsS s (f+1) p bd l=(l++[termOf s p],cW s (tok s p).to (needBad0 s (tok s p).to bd (chr 41)),takeBad s (tok s p).to (needBad0 s (tok s p).to bd (chr 41))):=by
 have e:termBad s p bd l.length=bd:=by
  unfold termBad;rw[if_neg];rcases hk with hk | hk <;> simp[hk,hl]
 have t:=take_neg h (p:=p) (s:=s) (by rcases hk with hk | hk <;> rw[hk] <;> decide) (by rcases hk with hk | hk <;> rw[hk] <;> decide);rw[<-chr_list] at hc;rw[termsS];simp only[e,t.1,t.2,(has_not h hc).1,(has_not h hc).2,isS_no h hc];rfl
theorem need_yes (h:bd<0)(hy:(tok s p).kind=115/\(tok s p).text.toList=wd.toList):cW s p (needBad0 s p bd wd)=(tok s p).to/\takeBad s p (needBad0 s p bd wd)=bd:=by
 have t:=take_neg h (by rw[hy.1];decide) (by rw[hy.1];decide);unfold needBad0;rw[(isS_iff h).2 hy];exact⟨t.2,t.1⟩
theorem need_no (h:bd<0)(hn:¬ ((tok s p).kind=115/\(tok s p).text.toList=wd.toList)):takeBad s p (needBad0 s p bd wd)=(tok s p).at_:=by
 unfold needBad0;rw[isS_no h hn];simp only[Bool.false_eq_true,if_false,fail_neg h];exact (take_pos (by omega)).1
theorem setPl_snoc {pl:Nat->Nat}{t:RTerm}(dP:∀ i (h:i<l.length),pl i=(l[i]).at_):∀ i (h:i<(l++[t]).length),dL pl l.length t.at_ i=((l++[t])[i]).at_:=by
 intro i h
 by_cases e:i=l.length
 ·subst e;simp[dL]
 ·have h1:i<l.length:=by simp at h;omega
  rw[List.getElem_append_left h1];simp[dL,e,dP i h1]
theorem terms_eq (s:B8)(bd:Int)(cU:bd<0):∀ (f p:Nat) (l:List RTerm) (pl:Nat->Nat),l.length+f=4->p<=s.size->(∀ i (h:i<l.length),pl i=(l[i]).at_) ->
  ((ptermsS s f p (l.map dI) pl).1=true->(termsS s (f+1) p bd l).2=((ptermsS s f p (l.map dI) pl).2.1,bd)/\(ptermsS s f p (l.map dI) pl).2.2.1=(termsS s (f+1) p bd l).1.map dI/\(∀ i (h:i<(termsS s (f+1) p bd l).1.length),(ptermsS s f p (l.map dI) pl).2.2.2 i=((termsS s (f+1) p bd l).1[i]).at_)/\(ptermsS s f p (l.map dI) pl).2.1<=s.size) /\
  ((ptermsS s f p (l.map dI) pl).1=false->(termsS s (f+1) p bd l).2.2=((ae s (ptermsS s f p (l.map dI) pl).2.1).2.1:Int)):=by
 intro f
 induction f with
 | zero=>
  intro p l pl hl hp _;refine⟨λ h=>by simp[ptermsS] at h,λ _=>?_⟩;rw[terms_bad1 0 cU (.inr (by omega))];simp only[ptermsS];rw[(kinds s p hp).at_]
 | succ f ih=>
  intro p l pl hl hp dP;have K:=kinds s p hp;have vT:(tok s p).to<=s.size:=by rw[<-K.lL];exact (scan_le s p hp).2
  have K2:=kinds s (tok s p).to vT;have rm:(tok s (tok s p).to).to<=s.size:=by rw[<-K2.lL];exact (scan_le s _ vT).2
  by_cases hk:(tok s p).kind=110\/(tok s p).kind=118
  ·have kg:(ae s p).1=2\/(ae s p).1=3:=(by rw[K.k2,K.k3];exact hk);have zv:(l.map dI)++[(decide ((ae s p).1=3),rword s p)]=(l++[termOf s p]).map dI:=by
    rw[List.map_append];simp only[List.map_cons,List.map_nil,dI,termOf];rw[K.word hk];have:decide ((ae s p).1=3)=((tok s p).kind==118):=by
     rw[Bool.eq_iff_iff];simp[K.k3]
    rw[this]
   have sM:∀ i (h:i<(l++[termOf s p]).length),dL pl l.length (ae s p).2.1 i=((l++[termOf s p])[i]).at_:=by
    rw[K.at_];exact setPl_snoc (t:=termOf s p) dP
   rw[ptermsS,if_pos kg,K.lL,zv,List.length_map]
   by_cases hc:(tok s (tok s p).to).kind=115/\(tok s (tok s p).to).text.toList=[44]
   ·rw[if_pos (K2.k7.2 hc),K2.lL,terms_go (f+1) cU hk (by omega) hc];exact ih _ _ _ (by simp;omega) rm sM
   ·rw[if_neg (λ e=>hc (K2.k7.1 e)),terms_end (f+1) cU hk (by omega) hc]
    by_cases hs:(tok s (tok s p).to).kind=115/\(tok s (tok s p).to).text.toList=[41]
    ·have hr:rtake s (tok s p).to 6=(tok s (tok s p).to).to:=(by unfold rtake;rw[K2.k6.2 hs];exact K2.lL);rw[<-chr_list] at hs;refine⟨λ _=>⟨?_,rfl,sM,by simp only[hr];exact rm⟩,λ h=>?_⟩
     ·simp only[(need_yes cU hs).1,(need_yes cU hs).2,hr]
     ·rw[chr_list] at hs;simp[K2.k6.2 hs] at h
    ·have h6:¬ (ae s (tok s p).to).1=6:=λ e=>hs (K2.k6.1 e)
     have hr:rtake s (tok s p).to 6=(tok s p).to:=(by unfold rtake;rw[if_neg (by simpa using h6)]);rw[<-chr_list] at hs;refine⟨λ h=>by simp[h6] at h,λ _=>?_⟩;simp only[need_no cU hs,hr];rw[K2.at_]
  ·have kg:¬ ((ae s p).1=2\/(ae s p).1=3):=(by rw[K.k2,K.k3];exact hk);rw[ptermsS,if_neg kg];refine⟨λ h=>by simp at h,λ _=>?_⟩;rw[terms_bad1 (f+1) cU (.inl hk)];simp only;rw[K.at_]
def AtomEq (s:B8)(p:Nat)(bd:Int)(r:PRes):Prop:=
 match r with
 | .no q=>(atomRest s p bd).2.2=((ae s q).2.1:Int)
 | .yes q pd ts pl=>(atomRest s p bd).2=(q,bd)/\pd=(tok s p).text/\ts=(atomRest s p bd).1.map dI/\(∀ i (h:i<(atomRest s p bd).1.length),pl i=((atomRest s p bd).1[i]).at_)/\q<=s.size
theorem atom_eq (s:B8)(p:Nat)(bd:Int)(cU:bd<0)(hp:p<=s.size):AtomEq s p bd (patomS s p):=by
 have K:=kinds s p hp;have vT:(tok s p).to<=s.size:=by rw[<-K.lL];exact (scan_le s p hp).2
 have K2:=kinds s (tok s p).to vT;have rm:(tok s (tok s p).to).to<=s.size:=by rw[<-K2.lL];exact (scan_le s _ vT).2
 unfold patomS
 by_cases hk:(tok s p).kind=110
 ·rw[if_pos (K.k2.2 hk),K.lL,K.word (.inl hk)];have b1:atomBad1 s p bd=bd:=by unfold atomBad1;simp[hk]
  have t:=take_neg cU (p:=p) (s:=s) (by rw[hk];decide) (by rw[hk];decide);have b2:atomBad2 s p bd=bd:=by unfold atomBad2;rw[b1];exact t.1
  have p2:atomPos2 s p bd=(tok s p).to:=by unfold atomPos2;rw[b1];exact t.2
  by_cases ho:(tok s (tok s p).to).kind=115/\(tok s (tok s p).to).text.toList=[40]
  ·rw[if_pos (K2.k5.2 ho),K2.lL];have e:atomRest s p bd=termsS s 5 (tok s (tok s p).to).to bd []:=by
    rw[<-chr_list] at ho;unfold atomRest;rw[b2,p2,(isS_iff cU).2 ho,(has_neg cU ho).1,(has_neg cU ho).2];rfl
   have T:=terms_eq s bd cU 4 (tok s (tok s p).to).to [] (λ _=>0) rfl rm (by simp);rw[List.map_nil] at T
   cases hP:(ptermsS s 4 (tok s (tok s p).to).to [] (λ _=>0)).1 with
   | true=>
    rw[if_pos rfl];obtain⟨t1,t2,t3,t4⟩:=T.1 hP;unfold AtomEq;simp only[e];exact⟨t1,trivial,t2,t3,t4⟩
   | false=>
    rw[if_neg (by decide)];unfold AtomEq;simp only[e];exact T.2 hP
  ·rw[if_neg (λ h=>ho (K2.k5.1 h))];have e:atomRest s p bd=([],(tok s p).to,bd):=by
    rw[<-chr_list] at ho;unfold atomRest;rw[b2,p2,isS_no cU ho,(has_not cU ho).1,(has_not cU ho).2];rfl
   unfold AtomEq;simp only[e];exact⟨trivial,trivial,by simp,by simp,vT⟩
 ·rw[if_neg (λ h=>hk (K.k2.1 h))];unfold AtomEq;have b1:atomBad1 s p bd=(tok s p).at_:=by unfold atomBad1;simp[hk,fail_neg cU]
  have h0:(0:Int)<=(tok s p).at_:=by omega
  have b2:atomBad2 s p bd=(tok s p).at_:=by unfold atomBad2;rw[b1];exact (take_pos h0).1
  simp only;rw[K.at_];unfold atomRest;rw[b2,isS_pos h0];exact (has_pos (s:=s) (wd:=chr 40) (p:=atomPos2 s p bd) h0).2
end
section
structure MenRel (num:Nat)(A:RAtom)(M:PMen):Prop where
 num:M.num=num
 neg:M.neg=A.no
 pd:M.pd=A.pred
 ts:M.ts=A.aS.map dI
 start:A.no=true->M.start=A.sf
 place:M.place=A.at_
 pl:∀ i (h:i<A.aS.length),M.pl i=(A.aS[i]).at_
def cI (A:RAtom):PLit:=⟨A.no,A.pred,A.aS.map dI⟩
def pruleOf (R:RRule):PRule:=⟨R.head.pred,R.head.aS.map dI,R.body.map cI⟩
def jY (num:Nat)(l:List RAtom)(ms:List PMen):Prop:=∃ q:List (RAtom × PMen),q.map (·.1)=l/\q.map (·.2)=ms/\∀ x∈q,MenRel num x.1 x.2
theorem jY.nil (num:Nat):jY num [] []:=⟨[],rfl,rfl,by simp⟩
variable {M:PMen} {A:RAtom} {ms:List PMen} {l:List RAtom}
theorem jY.snoc {num:Nat}(h:jY num l ms)(hm:MenRel num A M):jY num (l++[A]) (ms++[M]):=by
 obtain⟨q,h1,h2,h3⟩:=h;refine⟨q++[(A,M)],by simp[h1],by simp[h2],λ x hx=>?_⟩;rcases List.mem_append.1 hx with hx | hx
 ·exact h3 x hx
 ·simp at hx;subst hx;exact hm
theorem jY.cons {num:Nat}(h:jY num l ms)(hm:MenRel num A M):jY num (A::l) (M::ms):=by
 obtain⟨q,h1,h2,h3⟩:=h;refine⟨(A,M)::q,by simp[h1],by simp[h2],λ x hx=>?_⟩;rcases List.mem_cons.1 hx with hx | hx
 ·subst hx;exact hm
 ·exact h3 x hx
theorem lit_facts (s:B8)(p:Nat)(bd:Int)(cU:bd<0)(hp:p<=s.size):litNo s p bd=((ae s p).1==4)/\litPos s p bd=rtake s p 4/\litBad s p bd=bd:=by
 have K:=kinds s p hp;have e:litNo s p bd=((ae s p).1==4):=by
  unfold litNo;rw[Bool.eq_iff_iff];simp[cU,K.k4]
 by_cases h:(ae s p).1=4
 ·have hk:=K.k4.1 h;have t:=take_neg cU (p:=p) (s:=s) (by rw[hk];decide) (by rw[hk];decide);have hb:((ae s p).1==4)=true:=by simpa using h
  refine⟨e,?_,?_⟩
  ·unfold litPos rtake;rw[e,if_pos hb,if_pos hb,t.2,K.lL]
  ·unfold litBad;rw[e,if_pos hb,t.1]
 ·have hb:¬ ((ae s p).1==4)=true:=by simpa using h
  refine⟨e,?_,?_⟩
  ·unfold litPos rtake;rw[e,if_neg hb,if_neg hb]
  ·unfold litBad;rw[e,if_neg hb]
variable {p:Nat} {s:B8}
theorem rtake_le' {k:Int}(h:p<=s.size):rtake s p k<=s.size:=by
 unfold rtake;split
 ·exact (scan_le s p h).2
 ·exact h
theorem lit_eq (s:B8)(num p:Nat)(bd:Int)(cU:bd<0)(hp:p<=s.size):
  match patomS s (rtake s p 4) with
  | .no q=>(litRest s p bd).2=((ae s q).2.1:Int)
  | .yes q pd ts pl=>litRest s p bd=(q,bd)/\cJ s p pd ts=cI (litAtom s p bd)/\MenRel num (litAtom s p bd) (cK s num p pd ts pl)/\q<=s.size:=by
 obtain⟨f1,f2,f3⟩:=lit_facts s p bd cU hp;have A:=atom_eq s (rtake s p 4) bd cU (rtake_le' hp);have K:=kinds s p hp;have K2:=kinds s (rtake s p 4) (rtake_le' hp);unfold litRest litAtom;rw[f1,f2,f3]
 cases hr:patomS s (rtake s p 4) with
 | no q=>rw[hr] at A;exact A
 | yes q pd ts pl=>
  rw[hr] at A;obtain⟨a1,a2,a3,a4,a5⟩:=A;refine⟨a1,by simp[cJ,cI,a2,a3],⟨rfl,rfl,a2,a3,λ _=>K.at_,K2.at_,a4⟩,a5⟩
theorem bodyS_go (s:B8)(f p:Nat)(bd:Int)(l:List RAtom):bodyS s (f+1) p bd l =
  if isS s (litRest s p (litBad1 s p bd l.length)).1 (litRest s p (litBad1 s p bd l.length)).2 { data:=#[44] } then
   bodyS s f (hasPos s (litRest s p (litBad1 s p bd l.length)).1 (litRest s p (litBad1 s p bd l.length)).2 { data:=#[44] }) (hasBad s (litRest s p (litBad1 s p bd l.length)).1 (litRest s p (litBad1 s p bd l.length)).2 { data:=#[44] }) (l++[litAtom s p (litBad1 s p bd l.length)])
  else (l++[litAtom s p (litBad1 s p bd l.length)],hasPos s (litRest s p (litBad1 s p bd l.length)).1 (litRest s p (litBad1 s p bd l.length)).2 { data:=#[44] },hasBad s (litRest s p (litBad1 s p bd l.length)).1 (litRest s p (litBad1 s p bd l.length)).2 { data:=#[44] }):=by rw[bodyS]
theorem body_bad (s:B8)(f p:Nat)(bd:Int)(l:List RAtom)(a:Nat)(h:(litRest s p (litBad1 s p bd l.length)).2=(a:Int)):(bodyS s (f+1) p bd l).2.2=(a:Int):=by
 have h0:(0:Int)<=(a:Int):=by omega
 rw[bodyS_go,h,isS_pos h0,(has_pos h0).1,(has_pos h0).2];rfl
theorem need_bad {bd:Int}{a:Nat}{wd:B8}(h:bd=(a:Int)):takeBad s p (needBad0 s p bd wd)=(a:Int):=by
 have h0:(0:Int)<=(a:Int):=by omega
 subst h;rw[need_pos h0];exact (take_pos h0).1
theorem body_eq (s:B8)(num:Nat)(bd:Int)(cU:bd<0):∀ (f p:Nat) (l:List RAtom) (fE ms:List PMen),l.length+f=3->p<=s.size->jY num l ms ->
  ((pbodyS s num f p (l.map cI) (fE++ms)).1=true->∃ q ms',(bodyS s (f+1) p bd l).2=(q,bd)/\(ae s q).1=8/\q<=s.size/\(pbodyS s num f p (l.map cI) (fE++ms)).2.1=(ae s q).2.2/\(pbodyS s num f p (l.map cI) (fE++ms)).2.2.1=(bodyS s (f+1) p bd l).1.map cI/\(pbodyS s num f p (l.map cI) (fE++ms)).2.2.2=fE++ms'/\jY num (bodyS s (f+1) p bd l).1 ms') /\
  ((pbodyS s num f p (l.map cI) (fE++ms)).1=false->takeBad s (bodyS s (f+1) p bd l).2.1 (needBad0 s (bodyS s (f+1) p bd l).2.1 (bodyS s (f+1) p bd l).2.2 { data:=#[46] })=((ae s (pbodyS s num f p (l.map cI) (fE++ms)).2.1).2.1:Int)):=by
 intro f
 induction f with
 | zero=>
  intro p l fE ms hl hp _;have K:=kinds s p hp;refine⟨λ h=>by simp[pbodyS] at h,λ _=>?_⟩;have e:litBad1 s p bd l.length=((tok s p).at_:Int):=by
   unfold litBad1;have:(l.length==3)=true:=by simp;omega
   rw[if_pos this,fail_neg cU]
  have h0:(0:Int)<=((tok s p).at_:Int):=by omega
  have hb:=body_bad s 0 p bd l (tok s p).at_ (by rw[e];exact lit_pos h0);simp only[pbodyS];rw[need_bad hb,K.at_]
 | succ f ih=>
  intro p l fE ms hl hp hM;have e:litBad1 s p bd l.length=bd:=by
   unfold litBad1;have:¬ (l.length==3)=true:=by simp;omega
   rw[if_neg this]
  have L:=lit_eq s num p bd cU hp;rw[pbodyS]
  cases hr:patomS s (rtake s p 4) with
  | no q=>
   rw[hr] at L;have hb:=body_bad s (f+1) p bd l (ae s q).2.1 (by rw[e];exact L);refine⟨λ h=>by simp at h,λ _=>?_⟩;rw[need_bad hb]
  | yes q pd ts pl=>
   rw[hr] at L;obtain⟨l1,l2,l3,l4⟩:=L;have K:=kinds s q l4;have nD:l.map cI++[cJ s p pd ts]=(l++[litAtom s p bd]).map cI:=(by simp[l2]);have jA:fE++ms++[cK s num p pd ts pl]=fE++(ms++[cK s num p pd ts pl]):=(by simp);have E1:=hM.snoc l3;rw[bodyS_go,e,l1];simp only;rw[nD,jA]
   by_cases hc:(tok s q).kind=115/\(tok s q).text.toList=[44]
   ·have gD:(tok s q).kind=115/\(tok s q).text.toList=({ data:=#[44] }:B8).toList:=⟨hc.1,by rw[hc.2,ByteArray.toList_eq]⟩;rw[if_pos (K.k7.2 hc),K.lL,(isS_iff cU).2 gD,(has_neg cU gD).1,(has_neg cU gD).2,if_pos rfl];exact ih _ _ _ _ (by simp;omega) (by rw[<-K.lL];exact (scan_le s q l4).2) E1
   ·have gD:¬ ((tok s q).kind=115/\(tok s q).text.toList=({ data:=#[44] }:B8).toList):=λ h=>hc ⟨h.1,by rw[h.2,ByteArray.toList_eq]⟩
    rw[if_neg (λ h=>hc (K.k7.1 h)),isS_no cU gD,(has_not cU gD).1,(has_not cU gD).2,if_neg (by decide)]
    by_cases hs:(tok s q).kind=115/\(tok s q).text.toList=[46]
    ·have h8:=K.k8.2 hs;have oq:rtake s q 8=(ae s q).2.2:=(by unfold rtake;rw[if_pos (by simpa using h8)]);refine⟨λ _=>⟨q,ms++[cK s num p pd ts pl],rfl,h8,l4,oq,rfl,rfl,E1⟩,λ h=>by simp[h8] at h⟩
    ·have h8:¬ (ae s q).1=8:=λ h=>hs (K.k8.1 h)
     have oq:rtake s q 8=q:=(by unfold rtake;rw[if_neg (by simpa using h8)]);have im:¬ ((tok s q).kind=115/\(tok s q).text.toList=({ data:=#[46] }:B8).toList):=λ h=>hs ⟨h.1,by rw[h.2,ByteArray.toList_eq]⟩
     refine⟨λ h=>by simp[h8] at h,λ _=>?_⟩;simp only[oq];rw[need_no cU im,K.at_]
theorem rule_eq (s:B8)(num p:Nat)(bd:Int)(cU:bd<0)(hp:p<=s.size)(ms:List PMen):
  ((pruleS s num p ms).1=true->∃ ms',rulePos s p bd=(pruleS s num p ms).2.1/\ruleBad s p bd=bd/\(pruleS s num p ms).2.1<=s.size/\(pruleS s num p ms).2.2.1=pruleOf (ruleOf s p bd)/\(pruleS s num p ms).2.2.2=ms++ms'/\jY num (ruleOf s p bd).atoms ms') /\
  ((pruleS s num p ms).1=false->ruleBad s p bd=((ae s (pruleS s num p ms).2.1).2.1:Int)):=by
 have A:=atom_eq s p bd cU hp;have K:=kinds s p hp;unfold pruleS
 cases hr:patomS s p with
 | no q=>
  rw[hr] at A;have h0:(0:Int)<=((ae s q).2.1:Int):=by omega
  refine⟨λ h=>by simp at h,λ _=>?_⟩;unfold ruleBad bodyOf;rw[show (atomRest s p bd).2.2=((ae s q).2.1:Int) from A,isS_pos h0];simp only[Bool.false_eq_true,if_false];exact need_bad (has_pos h0).2
 | yes q pd ts pl=>
  rw[hr] at A;obtain⟨a1,a2,a3,a4,a5⟩:=A;have pC:(atomRest s p bd).2.1=q:=by rw[a1]
  have pD:(atomRest s p bd).2.2=bd:=by rw[a1]
  have K2:=kinds s q a5;have hrel:MenRel num (gV s p bd) (dc s num p pd ts pl):=⟨rfl,rfl,a2,a3,λ h=>by simp[gV] at h,K.at_,a4⟩
  by_cases hw:(tok s q).kind=115/\(tok s q).text.toList=[58,45]
  ·have uY:(tok s q).kind=115/\(tok s q).text.toList=({ data:=#[58,45] }:B8).toList:=⟨hw.1,by rw[hw.2,ByteArray.toList_eq]⟩;have h9:=K2.k9.2 hw;have h8:¬ (ae s q).1=8:=(by rw[h9];decide);have eB:bodyOf s p bd=bodyS s 4 (tok s q).to bd []:=by
    unfold bodyOf;rw[pC,pD,(isS_iff cU).2 uY,(has_neg cU uY).1,(has_neg cU uY).2];rfl
   have zj:(tok s q).to<=s.size:=(by rw[<-K2.lL];exact (scan_le s q a5).2);have B:=body_eq s num bd cU 3 (tok s q).to [] (ms++[dc s num p pd ts pl]) [] rfl zj (jY.nil num);rw[List.map_nil,List.append_nil] at B;simp only[if_neg h8,if_pos h9,K2.lL];refine⟨λ h=>?_,λ h=>?_⟩
   ·obtain⟨r,ms',b1,b2,b3,b4,b5,b6,b7⟩:=B.1 h;have K3:=kinds s r b3;have hs:=K3.k8.1 b2;have im:(tok s r).kind=115/\(tok s r).text.toList=({ data:=#[46] }:B8).toList:=⟨hs.1,by rw[hs.2,ByteArray.toList_eq]⟩;have e1:(bodyOf s p bd).2.1=r:=(by rw[eB,b1]);have e2:(bodyOf s p bd).2.2=bd:=(by rw[eB,b1]);refine⟨dc s num p pd ts pl::ms',?_,?_,?_,?_,?_,?_⟩
    ·unfold rulePos;rw[e1,e2,(need_yes cU im).1,b4,K3.lL]
    ·unfold ruleBad;rw[e1,e2,(need_yes cU im).2]
    ·rw[b4];exact (scan_le s r b3).2
    ·rw[b5,<-eB];simp[pruleOf,ruleOf,gV,a2,a3]
    ·rw[b6];simp
    ·rw[<-eB] at b7;exact jY.cons b7 hrel
   ·unfold ruleBad;rw[eB];exact B.2 h
  ·have uY:¬ ((tok s q).kind=115/\(tok s q).text.toList=({ data:=#[58,45] }:B8).toList):=λ h=>hw ⟨h.1,by rw[h.2,ByteArray.toList_eq]⟩
   have h9:¬ (ae s q).1=9:=λ h=>hw (K2.k9.1 h)
   have eB:bodyOf s p bd=([],q,bd):=by
    unfold bodyOf;rw[pC,pD,isS_no cU uY,(has_not cU uY).1,(has_not cU uY).2];rfl
   by_cases hs:(tok s q).kind=115/\(tok s q).text.toList=[46]
   ·have im:(tok s q).kind=115/\(tok s q).text.toList=({ data:=#[46] }:B8).toList:=⟨hs.1,by rw[hs.2,ByteArray.toList_eq]⟩;have h8:=K2.k8.2 hs;simp only[if_pos h8];refine⟨λ _=>⟨[dc s num p pd ts pl],?_,?_,(scan_le s q a5).2,?_,rfl,?_⟩,λ h=>by simp at h⟩
    ·unfold rulePos;rw[eB];simp only;rw[(need_yes cU im).1,K2.lL]
    ·unfold ruleBad;rw[eB];simp only;rw[(need_yes cU im).2]
    ·simp[pruleOf,ruleOf,gV,eB,a2,a3]
    ·have:(ruleOf s p bd).atoms=[gV s p bd]:=by simp[ruleOf,RRule.atoms,eB]
     rw[this];exact jY.cons (jY.nil num) hrel
   ·have im:¬ ((tok s q).kind=115/\(tok s q).text.toList=({ data:=#[46] }:B8).toList):=λ h=>hs ⟨h.1,by rw[h.2,ByteArray.toList_eq]⟩
    have h8:¬ (ae s q).1=8:=λ h=>hs (K2.k8.1 h)
    simp only[if_neg h8,if_neg h9];refine⟨λ h=>by simp at h,λ _=>?_⟩;unfold ruleBad;rw[eB];simp only;rw[need_no cU im,K2.at_]
inductive bO:Nat->List RRule->List PMen->Prop where
 | nil (n:Nat):bO n [] []
 | cons {n:Nat} {R:RRule} {rs:List RRule} {ms ms':List PMen} (h:jY n R.atoms ms) (t:bO (n+1) rs ms'):bO n (R::rs) (ms++ms')
theorem bO.snoc {n:Nat}{rs:List RRule}(h:bO n rs ms):∀ {R:RRule} {ms':List PMen},jY (n+rs.length) R.atoms ms'->bO n (rs++[R]) (ms++ms'):=by
 induction h with
 | nil n=>
  intro R ms' hm;have:=bO.cons (rs:=[]) (ms':=[]) hm (bO.nil _);simpa using this
 | cons h t ih=>
  intro R ms' hm;rw[List.append_assoc,List.cons_append];refine bO.cons h (ih ?_);simpa[Nat.add_comm,Nat.add_left_comm,Nat.add_assoc] using hm
theorem rules_eq (s:B8)(bd:Int)(cU:bd<0):∀ (f p:Nat) (rs:List RRule) (ms:List PMen),rs.length+f=30->p<=s.size->bO 0 rs ms ->
  ((prulesS s (f+1) p (rs.map pruleOf) ms).1=true->(rulesS s (f+1) p bd rs).2.2=bd/\(prulesS s (f+1) p (rs.map pruleOf) ms).2.2.1=(rulesS s (f+1) p bd rs).1.map pruleOf/\bO 0 (rulesS s (f+1) p bd rs).1 (prulesS s (f+1) p (rs.map pruleOf) ms).2.2.2) /\
  ((prulesS s (f+1) p (rs.map pruleOf) ms).1=false->(rulesS s (f+1) p bd rs).2.2=((ae s (prulesS s (f+1) p (rs.map pruleOf) ms).2.1).2.1:Int)):=by
 intro f
 induction f with
 | zero=>
  intro p rs ms hl hp hT;have K:=kinds s p hp;rw[prulesS,rulesS]
  by_cases h0:(ae s p).1=0
  ·have hg:goesOn s p bd=false:=(by unfold goesOn;simp[K.k0.1 h0]);rw[if_pos h0,hg,if_neg (by decide)];exact⟨λ _=>⟨rfl,rfl,hT⟩,λ h=>by simp at h⟩
  ·have hg:goesOn s p bd=true:=(by unfold goesOn;simp[cU];exact λ h=>h0 (K.k0.2 h));rw[if_neg h0,if_pos (by simp;omega),hg,if_pos rfl];refine⟨λ h=>by simp at h,λ _=>?_⟩;have e:ruleBad1 s p bd rs.length=((tok s p).at_:Int):=by
    unfold ruleBad1;rw[if_pos (by simp;omega),fail_neg cU]
   have oa:(0:Int)<=((tok s p).at_:Int):=(by omega);simp only[rulesS,e];unfold ruleBad;have hb:(bodyOf s p ((tok s p).at_:Int)).2.2=((tok s p).at_:Int):=by
    unfold bodyOf;rw[atom_pos oa,isS_pos oa,(has_pos oa).1,(has_pos oa).2];rfl
   rw[need_bad hb,K.at_]
 | succ f ih=>
  intro p rs ms hl hp hT;have K:=kinds s p hp;rw[prulesS,rulesS]
  by_cases h0:(ae s p).1=0
  ·have hg:goesOn s p bd=false:=(by unfold goesOn;simp[K.k0.1 h0]);rw[if_pos h0,hg,if_neg (by decide)];exact⟨λ _=>⟨rfl,rfl,hT⟩,λ h=>by simp at h⟩
  ·have hg:goesOn s p bd=true:=(by unfold goesOn;simp[cU];exact λ h=>h0 (K.k0.2 h));have e:ruleBad1 s p bd rs.length=bd:=(by unfold ruleBad1;rw[if_neg (by simp;omega)]);rw[if_neg h0,if_neg (by simp;omega),hg,if_pos rfl,e,List.length_map];have R:=rule_eq s rs.length p bd cU hp ms
   cases hr:(pruleS s rs.length p ms).1 with
   | true=>
    obtain⟨ms',r1,r2,r3,r4,r5,r6⟩:=R.1 hr;rw[if_pos rfl,r1,r2,r4,r5];have e2:rs.map pruleOf++[pruleOf (ruleOf s p bd)]=(rs++[ruleOf s p bd]).map pruleOf:=(by simp);rw[e2];exact ih _ _ _ (by simp;omega) r3 (hT.snoc (by simpa using r6))
   | false=>
    have hb:=R.2 hr;rw[if_neg (by decide)];refine⟨λ h=>by simp at h,λ _=>?_⟩;have oa:goesOn s (rulePos s p bd) (ruleBad s p bd)=false:=(by unfold goesOn;rw[hb];simp);rw[rules_end _ _ _ _ _ oa];exact hb
def pparsed (s:B8):Bool × Nat × List PRule × List PMen:=prulesS s 31 0 [] []
theorem parsed_eq (s:B8):
  ((pparsed s).1=true->(parsed s).2.2=-1/\(pparsed s).2.2.1=(parsed s).1.map pruleOf/\bO 0 (parsed s).1 (pparsed s).2.2.2) /\
  ((pparsed s).1=false->(parsed s).2.2=((ae s (pparsed s).2.1).2.1:Int)):=
 rules_eq s (-1) (by decide) 30 0 [] [] rfl (Nat.zero_le _) (bO.nil 0)
end
end Go.Proofs.YtldkpahaocjdpaaGreat
