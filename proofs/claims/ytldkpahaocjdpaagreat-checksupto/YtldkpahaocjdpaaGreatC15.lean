/-
  Plain: both readers read the same: the same atoms, literals, rules; or they stop at the same place.
-/
import Derived.Test.YtldkpahaocjdpaaGreatC14
set_option maxHeartbeats 16000000
set_option maxRecDepth 1000000
namespace Go.Proofs.YtldkpahaocjdpaaGreat
section
variable {bd:Int} {p:Nat} {s:B8}
theorem ze3 (h:0<=bd):zT s p bd=bd/\zW s p bd=p:=by
 have e:zab s p bd=bd:=by unfold zab;rw[if_neg (by omega)]
 have e1:zT s p bd=bd:=by unfold zT;split;exact e;rfl
 exact⟨e1,by unfold zW;rw[e1,if_neg (by omega)]⟩
theorem ztk (h:0<=bd):zab s p bd=bd:=by unfold zab;rw[if_neg (by omega)]
variable {wd:B8}
theorem zed (h:0<=bd):im s p bd wd=false:=by
 unfold im;simp;intro h1;omega
theorem zdk (h:0<=bd):vA s p bd wd=p/\vM s p bd wd=bd:=by
 unfold vA vM;rw[zed h];exact⟨rfl,rfl⟩
theorem zt1 (h:0<=bd):xQ s p bd wd=bd:=by
 unfold xQ;rw[zed h];exact ztk h
theorem zs4 (h:0<=bd):(zI s p bd).2.2=bd:=by
 have e1:yB s p bd=bd:=by unfold yB;split;exact ztk h;rfl
 have e2:qT s p bd=bd:=by unfold qT;rw[e1];exact (ze3 h).1
 unfold zI;rw[e2,zed h];exact (zdk h).2
theorem z7k (h:0<=bd):(yG s p bd).2=bd:=by
 have e1:zix s p bd=false:=by unfold zix;simp;intro h1;omega
 unfold yG vQ xE;rw[e1];exact zs4 h
theorem ze2 (h:bd<0)(h1:(tok s p).kind≠33)(h2:(tok s p).kind≠46):zT s p bd=bd/\zW s p bd=(tok s p).to:=by
 have e1:zT s p bd=bd:=by unfold zT;rw[if_neg (by simp[h1,h2])]
 exact⟨e1,by unfold zW;rw[e1,if_pos h]⟩
theorem zg1 (h:bd<0):zab s p bd=(tok s p).at_:=by unfold zab;rw[if_pos h]
theorem zf5 (h:bd<0):im s p bd wd=true↔((tok s p).kind=115/\(tok s p).text.toList=wd.toList):=by
 unfold im;simp[h]
theorem zlk (h:bd<0)(hn:¬ ((tok s p).kind=115/\(tok s p).text.toList=wd.toList)):im s p bd wd=false:=by
 cases e:im s p bd wd with
 | false=>rfl
 | true=>exact absurd ((zf5 h).1 e) hn
theorem zeb (h:bd<0)(hy:(tok s p).kind=115/\(tok s p).text.toList=wd.toList):vA s p bd wd=(tok s p).to/\vM s p bd wd=bd:=by
 have e:=(zf5 (wd:=wd) h).2 hy;have t:=ze2 h (by rw[hy.1];decide) (by rw[hy.1];decide);unfold vA vM;rw[e];exact⟨t.2,t.1⟩
theorem zec (h:bd<0)(hn:¬ ((tok s p).kind=115/\(tok s p).text.toList=wd.toList)):vA s p bd wd=p/\vM s p bd wd=bd:=by
 unfold vA vM;rw[zlk h hn];exact⟨rfl,rfl⟩
theorem zdi (c:UInt8):(chr c).toList=[c]:=by
 rw[ByteArray.toList_eq]
def gZ (t:xK):Bool × B8:=(t.isVar,t.text)
variable {l:List xK}
theorem zmb (f:Nat)(h:bd<0)(hn:¬ ((tok s p).kind=110\/(tok s p).kind=118)\/l.length=4):(j9 s (f+1) p bd l).2.2=(tok s p).at_:=by
 have e:zR s p bd l.length=(tok s p).at_:=by
  unfold zR;rw[if_pos,zg1 h];rcases hn with hn | hn
  ·simp[not_or.1 hn]
  ·simp[hn]
 have h0:(0:Int)<=(tok s p).at_:=by omega
 rw[j9];simp only[e,(ze3 h0).1,(ze3 h0).2,zed h0,(zdk h0).1,(zdk h0).2,zt1 h0];rfl
theorem z5h (f:Nat)(h:bd<0)(hk:(tok s p).kind=110\/(tok s p).kind=118)(hl:l.length≠4)(hc:(tok s (tok s p).to).kind=115/\(tok s (tok s p).to).text.toList=[44]):
  j9 s (f+1) p bd l=j9 s f (tok s (tok s p).to).to bd (l++[yD s p]):=by
 have e:zR s p bd l.length=bd:=by
  unfold zR;rw[if_neg];rcases hk with hk | hk <;> simp[hk,hl]
 have t:=ze2 h (p:=p) (s:=s) (by rcases hk with hk | hk <;> rw[hk] <;> decide) (by rcases hk with hk | hk <;> rw[hk] <;> decide);rw[<-zdi] at hc;rw[j9];simp only[e,t.1,t.2,(zeb h hc).1,(zeb h hc).2,(zf5 h).2 hc,if_true]
theorem z1y (f:Nat)(h:bd<0)(hk:(tok s p).kind=110\/(tok s p).kind=118)(hl:l.length≠4)(hc:¬ ((tok s (tok s p).to).kind=115/\(tok s (tok s p).to).text.toList=[44])):
  j9 s (f+1) p bd l=(l++[yD s p],zW s (tok s p).to (xQ s (tok s p).to bd (chr 41)),zT s (tok s p).to (xQ s (tok s p).to bd (chr 41))):=by
 have e:zR s p bd l.length=bd:=by
  unfold zR;rw[if_neg];rcases hk with hk | hk <;> simp[hk,hl]
 have t:=ze2 h (p:=p) (s:=s) (by rcases hk with hk | hk <;> rw[hk] <;> decide) (by rcases hk with hk | hk <;> rw[hk] <;> decide);rw[<-zdi] at hc;rw[j9];simp only[e,t.1,t.2,(zec h hc).1,(zec h hc).2,zlk h hc];rfl
theorem zey (h:bd<0)(hy:(tok s p).kind=115/\(tok s p).text.toList=wd.toList):zW s p (xQ s p bd wd)=(tok s p).to/\zT s p (xQ s p bd wd)=bd:=by
 have t:=ze2 h (by rw[hy.1];decide) (by rw[hy.1];decide);unfold xQ;rw[(zf5 h).2 hy];exact⟨t.2,t.1⟩
theorem zr5 (h:bd<0)(hn:¬ ((tok s p).kind=115/\(tok s p).text.toList=wd.toList)):zT s p (xQ s p bd wd)=(tok s p).at_:=by
 unfold xQ;rw[zlk h hn];simp only[Bool.false_eq_true,if_false,zg1 h];exact (ze3 (by omega)).1
theorem zwy {pl:Nat->Nat}{t:xK}(b8:∀ i (h:i<l.length),pl i=(l[i]).at_):∀ i (h:i<(l++[t]).length),je pl l.length t.at_ i=((l++[t])[i]).at_:=by
 intro i h
 by_cases e:i=l.length
 ·subst e;simp[je]
 ·have h1:i<l.length:=by simp at h;omega
  rw[List.getElem_append_left h1];simp[je,e,b8 i h1]
theorem z5g (s:B8)(bd:Int)(cX:bd<0):∀ (f p:Nat) (l:List xK) (pl:Nat->Nat),l.length+f=4->p<=s.size->(∀ i (h:i<l.length),pl i=(l[i]).at_) ->
  ((yE s f p (l.map gZ) pl).1=true->(j9 s (f+1) p bd l).2=((yE s f p (l.map gZ) pl).2.1,bd)/\(yE s f p (l.map gZ) pl).2.2.1=(j9 s (f+1) p bd l).1.map gZ/\(∀ i (h:i<(j9 s (f+1) p bd l).1.length),(yE s f p (l.map gZ) pl).2.2.2 i=((j9 s (f+1) p bd l).1[i]).at_)/\(yE s f p (l.map gZ) pl).2.1<=s.size) /\
  ((yE s f p (l.map gZ) pl).1=false->(j9 s (f+1) p bd l).2.2=((zG s (yE s f p (l.map gZ) pl).2.1).2.1:Int)):=by
 intro f
 induction f with
 | zero=>
  intro p l pl hl hp _;refine⟨λ h=>by simp[yE] at h,λ _=>?_⟩;rw[zmb 0 cX (.inr (by omega))];simp only[yE];rw[(zee s p hp).at_]
 | succ f ih=>
  intro p l pl hl hp b8;have K:=zee s p hp;have FH:(tok s p).to<=s.size:=by rw[<-K.uF];exact (xT s p hp).2
  have K2:=zee s (tok s p).to FH;have Em:(tok s (tok s p).to).to<=s.size:=by rw[<-K2.uF];exact (xT s _ FH).2
  by_cases hk:(tok s p).kind=110\/(tok s p).kind=118
  ·have qz:(zG s p).1=2\/(zG s p).1=3:=(by rw[K.k2,K.k3];exact hk);have Mb:(l.map gZ)++[(decide ((zG s p).1=3),xR s p)]=(l++[yD s p]).map gZ:=by
    rw[List.map_append];simp only[List.map_cons,List.map_nil,gZ,yD];rw[K.word hk];have:decide ((zG s p).1=3)=((tok s p).kind==118):=by
     rw[Bool.eq_iff_iff];simp[K.k3]
    rw[this]
   have FB:∀ i (h:i<(l++[yD s p]).length),je pl l.length (zG s p).2.1 i=((l++[yD s p])[i]).at_:=by
    rw[K.at_];exact zwy (t:=yD s p) b8
   rw[yE,if_pos qz,K.uF,Mb,List.length_map]
   by_cases hc:(tok s (tok s p).to).kind=115/\(tok s (tok s p).to).text.toList=[44]
   ·rw[if_pos (K2.k7.2 hc),K2.uF,z5h (f+1) cX hk (by omega) hc];exact ih _ _ _ (by simp;omega) Em FB
   ·rw[if_neg (λ e=>hc (K2.k7.1 e)),z1y (f+1) cX hk (by omega) hc]
    by_cases hs:(tok s (tok s p).to).kind=115/\(tok s (tok s p).to).text.toList=[41]
    ·have hr:yU s (tok s p).to 6=(tok s (tok s p).to).to:=(by unfold yU;rw[K2.k6.2 hs];exact K2.uF);rw[<-zdi] at hs;refine⟨λ _=>⟨?_,rfl,FB,by simp only[hr];exact Em⟩,λ h=>?_⟩
     ·simp only[(zey cX hs).1,(zey cX hs).2,hr]
     ·rw[zdi] at hs;simp[K2.k6.2 hs] at h
    ·have h6:¬ (zG s (tok s p).to).1=6:=λ e=>hs (K2.k6.1 e)
     have hr:yU s (tok s p).to 6=(tok s p).to:=(by unfold yU;rw[if_neg (by simpa using h6)]);rw[<-zdi] at hs;refine⟨λ h=>by simp[h6] at h,λ _=>?_⟩;simp only[zr5 cX hs,hr];rw[K2.at_]
  ·have qz:¬ ((zG s p).1=2\/(zG s p).1=3):=(by rw[K.k2,K.k3];exact hk);rw[yE,if_neg qz];refine⟨λ h=>by simp at h,λ _=>?_⟩;rw[zmb (f+1) cX (.inl hk)];simp only;rw[K.at_]
def zoo (s:B8)(p:Nat)(bd:Int)(r:z96):Prop:=
 match r with
 | .no q=>(zI s p bd).2.2=((zG s q).2.1:Int)
 | .yes q pd ts pl=>(zI s p bd).2=(q,bd)/\pd=(tok s p).text/\ts=(zI s p bd).1.map gZ/\(∀ i (h:i<(zI s p bd).1.length),pl i=((zI s p bd).1[i]).at_)/\q<=s.size
theorem zri (s:B8)(p:Nat)(bd:Int)(cX:bd<0)(hp:p<=s.size):zoo s p bd (x9 s p):=by
 have K:=zee s p hp;have FH:(tok s p).to<=s.size:=by rw[<-K.uF];exact (xT s p hp).2
 have K2:=zee s (tok s p).to FH;have Em:(tok s (tok s p).to).to<=s.size:=by rw[<-K2.uF];exact (xT s _ FH).2
 unfold x9
 by_cases hk:(tok s p).kind=110
 ·rw[if_pos (K.k2.2 hk),K.uF,K.word (.inl hk)];have b1:yB s p bd=bd:=by unfold yB;simp[hk]
  have t:=ze2 cX (p:=p) (s:=s) (by rw[hk];decide) (by rw[hk];decide);have b2:qT s p bd=bd:=by unfold qT;rw[b1];exact t.1
  have p2:zcl s p bd=(tok s p).to:=by unfold zcl;rw[b1];exact t.2
  by_cases ho:(tok s (tok s p).to).kind=115/\(tok s (tok s p).to).text.toList=[40]
  ·rw[if_pos (K2.k5.2 ho),K2.uF];have e:zI s p bd=j9 s 5 (tok s (tok s p).to).to bd []:=by
    rw[<-zdi] at ho;unfold zI;rw[b2,p2,(zf5 cX).2 ho,(zeb cX ho).1,(zeb cX ho).2];rfl
   have T:=z5g s bd cX 4 (tok s (tok s p).to).to [] (λ _=>0) rfl Em (by simp);rw[List.map_nil] at T
   cases hP:(yE s 4 (tok s (tok s p).to).to [] (λ _=>0)).1 with
   | true=>
    rw[if_pos rfl];obtain⟨t1,t2,t3,t4⟩:=T.1 hP;unfold zoo;simp only[e];exact⟨t1,trivial,t2,t3,t4⟩
   | false=>
    rw[if_neg (by decide)];unfold zoo;simp only[e];exact T.2 hP
  ·rw[if_neg (λ h=>ho (K2.k5.1 h))];have e:zI s p bd=([],(tok s p).to,bd):=by
    rw[<-zdi] at ho;unfold zI;rw[b2,p2,zlk cX ho,(zec cX ho).1,(zec cX ho).2];rfl
   unfold zoo;simp only[e];exact⟨trivial,trivial,by simp,by simp,FH⟩
 ·rw[if_neg (λ h=>hk (K.k2.1 h))];unfold zoo;have b1:yB s p bd=(tok s p).at_:=by unfold yB;simp[hk,zg1 cX]
  have h0:(0:Int)<=(tok s p).at_:=by omega
  have b2:qT s p bd=(tok s p).at_:=by unfold qT;rw[b1];exact (ze3 h0).1
  simp only;rw[K.at_];unfold zI;rw[b2,zed h0];exact (zdk (s:=s) (wd:=chr 40) (p:=zcl s p bd) h0).2
end
section
structure zie (num:Nat)(A:zL)(M:xU):Prop where
 num:M.num=num
 neg:M.neg=A.no
 pd:M.pd=A.pred
 ts:M.ts=A.ae.map gZ
 start:A.no=true->M.start=A.ak
 place:M.place=A.at_
 pl:∀ i (h:i<A.ae.length),M.pl i=(A.ae[i]).at_
def nI (A:zL):vJ:=⟨A.no,A.pred,A.ae.map gZ⟩
def yT (R:zP):vX:=⟨R.head.pred,R.head.ae.map gZ,R.body.map nI⟩
def rW (num:Nat)(l:List zL)(ms:List xU):Prop:=∃ q:List (zL × xU),q.map (·.1)=l/\q.map (·.2)=ms/\∀ x∈q,zie num x.1 x.2
theorem rW.nil (num:Nat):rW num [] []:=⟨[],rfl,rfl,by simp⟩
variable {M:xU} {A:zL} {ms:List xU} {l:List zL}
theorem rW.snoc {num:Nat}(h:rW num l ms)(hm:zie num A M):rW num (l++[A]) (ms++[M]):=by
 obtain⟨q,h1,h2,h3⟩:=h;refine⟨q++[(A,M)],by simp[h1],by simp[h2],λ x hx=>?_⟩;rcases List.mem_append.1 hx with hx | hx
 ·exact h3 x hx
 ·simp at hx;subst hx;exact hm
theorem rW.cons {num:Nat}(h:rW num l ms)(hm:zie num A M):rW num (A::l) (M::ms):=by
 obtain⟨q,h1,h2,h3⟩:=h;refine⟨(A,M)::q,by simp[h1],by simp[h2],λ x hx=>?_⟩;rcases List.mem_cons.1 hx with hx | hx
 ·subst hx;exact hm
 ·exact h3 x hx
theorem zzw (s:B8)(p:Nat)(bd:Int)(cX:bd<0)(hp:p<=s.size):zix s p bd=((zG s p).1==4)/\xE s p bd=yU s p 4/\vQ s p bd=bd:=by
 have K:=zee s p hp;have e:zix s p bd=((zG s p).1==4):=by
  unfold zix;rw[Bool.eq_iff_iff];simp[cX,K.k4]
 by_cases h:(zG s p).1=4
 ·have hk:=K.k4.1 h;have t:=ze2 cX (p:=p) (s:=s) (by rw[hk];decide) (by rw[hk];decide);have hb:((zG s p).1==4)=true:=by simpa using h
  refine⟨e,?_,?_⟩
  ·unfold xE yU;rw[e,if_pos hb,if_pos hb,t.2,K.uF]
  ·unfold vQ;rw[e,if_pos hb,t.1]
 ·have hb:¬ ((zG s p).1==4)=true:=by simpa using h
  refine⟨e,?_,?_⟩
  ·unfold xE yU;rw[e,if_neg hb,if_neg hb]
  ·unfold vQ;rw[e,if_neg hb]
variable {p:Nat} {s:B8}
theorem zqh {k:Int}(h:p<=s.size):yU s p k<=s.size:=by
 unfold yU;split
 ·exact (xT s p h).2
 ·exact h
theorem z9f (s:B8)(num p:Nat)(bd:Int)(cX:bd<0)(hp:p<=s.size):
  match x9 s (yU s p 4) with
  | .no q=>(yG s p bd).2=((zG s q).2.1:Int)
  | .yes q pd ts pl=>yG s p bd=(q,bd)/\yv s p pd ts=nI (xY s p bd)/\zie num (xY s p bd) (CP s num p pd ts pl)/\q<=s.size:=by
 obtain⟨f1,f2,f3⟩:=zzw s p bd cX hp;have A:=zri s (yU s p 4) bd cX (zqh hp);have K:=zee s p hp;have K2:=zee s (yU s p 4) (zqh hp);unfold yG xY;rw[f1,f2,f3]
 cases hr:x9 s (yU s p 4) with
 | no q=>rw[hr] at A;exact A
 | yes q pd ts pl=>
  rw[hr] at A;obtain⟨a1,a2,a3,a4,a5⟩:=A;refine⟨a1,by simp[yv,nI,a2,a3],⟨rfl,rfl,a2,a3,λ _=>K.at_,K2.at_,a4⟩,a5⟩
theorem zs7 (s:B8)(f p:Nat)(bd:Int)(l:List zL):zb4 s (f+1) p bd l =
  if im s (yG s p (zX s p bd l.length)).1 (yG s p (zX s p bd l.length)).2 { data:=#[44] } then
   zb4 s f (vA s (yG s p (zX s p bd l.length)).1 (yG s p (zX s p bd l.length)).2 { data:=#[44] }) (vM s (yG s p (zX s p bd l.length)).1 (yG s p (zX s p bd l.length)).2 { data:=#[44] }) (l++[xY s p (zX s p bd l.length)])
  else (l++[xY s p (zX s p bd l.length)],vA s (yG s p (zX s p bd l.length)).1 (yG s p (zX s p bd l.length)).2 { data:=#[44] },vM s (yG s p (zX s p bd l.length)).1 (yG s p (zX s p bd l.length)).2 { data:=#[44] }):=by rw[zb4]
theorem zs8 (s:B8)(f p:Nat)(bd:Int)(l:List zL)(a:Nat)(h:(yG s p (zX s p bd l.length)).2=(a:Int)):(zb4 s (f+1) p bd l).2.2=(a:Int):=by
 have h0:(0:Int)<=(a:Int):=by omega
 rw[zs7,h,zed h0,(zdk h0).1,(zdk h0).2];rfl
theorem zja {bd:Int}{a:Nat}{wd:B8}(h:bd=(a:Int)):zT s p (xQ s p bd wd)=(a:Int):=by
 have h0:(0:Int)<=(a:Int):=by omega
 subst h;rw[zt1 h0];exact (ze3 h0).1
theorem z60 (s:B8)(num:Nat)(bd:Int)(cX:bd<0):∀ (f p:Nat) (l:List zL) (lM ms:List xU),l.length+f=3->p<=s.size->rW num l ms ->
  ((jE s num f p (l.map nI) (lM++ms)).1=true->∃ q ms',(zb4 s (f+1) p bd l).2=(q,bd)/\(zG s q).1=8/\q<=s.size/\(jE s num f p (l.map nI) (lM++ms)).2.1=(zG s q).2.2/\(jE s num f p (l.map nI) (lM++ms)).2.2.1=(zb4 s (f+1) p bd l).1.map nI/\(jE s num f p (l.map nI) (lM++ms)).2.2.2=lM++ms'/\rW num (zb4 s (f+1) p bd l).1 ms') /\
  ((jE s num f p (l.map nI) (lM++ms)).1=false->zT s (zb4 s (f+1) p bd l).2.1 (xQ s (zb4 s (f+1) p bd l).2.1 (zb4 s (f+1) p bd l).2.2 { data:=#[46] })=((zG s (jE s num f p (l.map nI) (lM++ms)).2.1).2.1:Int)):=by
 intro f
 induction f with
 | zero=>
  intro p l lM ms hl hp _;have K:=zee s p hp;refine⟨λ h=>by simp[jE] at h,λ _=>?_⟩;have e:zX s p bd l.length=((tok s p).at_:Int):=by
   unfold zX;have:(l.length==3)=true:=by simp;omega
   rw[if_pos this,zg1 cX]
  have h0:(0:Int)<=((tok s p).at_:Int):=by omega
  have hb:=zs8 s 0 p bd l (tok s p).at_ (by rw[e];exact z7k h0);simp only[jE];rw[zja hb,K.at_]
 | succ f ih=>
  intro p l lM ms hl hp hM;have e:zX s p bd l.length=bd:=by
   unfold zX;have:¬ (l.length==3)=true:=by simp;omega
   rw[if_neg this]
  have L:=z9f s num p bd cX hp;rw[jE]
  cases hr:x9 s (yU s p 4) with
  | no q=>
   rw[hr] at L;have hb:=zs8 s (f+1) p bd l (zG s q).2.1 (by rw[e];exact L);refine⟨λ h=>by simp at h,λ _=>?_⟩;rw[zja hb]
  | yes q pd ts pl=>
   rw[hr] at L;obtain⟨l1,l2,l3,l4⟩:=L;have K:=zee s q l4;have zx:l.map nI++[yv s p pd ts]=(l++[xY s p bd]).map nI:=(by simp[l2]);have uB:lM++ms++[CP s num p pd ts pl]=lM++(ms++[CP s num p pd ts pl]):=(by simp);have Tt:=hM.snoc l3;rw[zs7,e,l1];simp only;rw[zx,uB]
   by_cases hc:(tok s q).kind=115/\(tok s q).text.toList=[44]
   ·have mY:(tok s q).kind=115/\(tok s q).text.toList=({ data:=#[44] }:B8).toList:=⟨hc.1,by rw[hc.2,ByteArray.toList_eq]⟩;rw[if_pos (K.k7.2 hc),K.uF,(zf5 cX).2 mY,(zeb cX mY).1,(zeb cX mY).2,if_pos rfl];exact ih _ _ _ _ (by simp;omega) (by rw[<-K.uF];exact (xT s q l4).2) Tt
   ·have mY:¬ ((tok s q).kind=115/\(tok s q).text.toList=({ data:=#[44] }:B8).toList):=λ h=>hc ⟨h.1,by rw[h.2,ByteArray.toList_eq]⟩
    rw[if_neg (λ h=>hc (K.k7.1 h)),zlk cX mY,(zec cX mY).1,(zec cX mY).2,if_neg (by decide)]
    by_cases hs:(tok s q).kind=115/\(tok s q).text.toList=[46]
    ·have h8:=K.k8.2 hs;have AM:yU s q 8=(zG s q).2.2:=(by unfold yU;rw[if_pos (by simpa using h8)]);refine⟨λ _=>⟨q,ms++[CP s num p pd ts pl],rfl,h8,l4,AM,rfl,rfl,Tt⟩,λ h=>by simp[h8] at h⟩
    ·have h8:¬ (zG s q).1=8:=λ h=>hs (K.k8.1 h)
     have AM:yU s q 8=q:=(by unfold yU;rw[if_neg (by simpa using h8)]);have mh:¬ ((tok s q).kind=115/\(tok s q).text.toList=({ data:=#[46] }:B8).toList):=λ h=>hs ⟨h.1,by rw[h.2,ByteArray.toList_eq]⟩
     refine⟨λ h=>by simp[h8] at h,λ _=>?_⟩;simp only[AM];rw[zr5 cX mh,K.at_]
theorem z77 (s:B8)(num p:Nat)(bd:Int)(cX:bd<0)(hp:p<=s.size)(ms:List xU):
  ((vB s num p ms).1=true->∃ ms',zbi s p bd=(vB s num p ms).2.1/\jG s p bd=bd/\(vB s num p ms).2.1<=s.size/\(vB s num p ms).2.2.1=yT (qZ s p bd)/\(vB s num p ms).2.2.2=ms++ms'/\rW num (qZ s p bd).atoms ms') /\
  ((vB s num p ms).1=false->jG s p bd=((zG s (vB s num p ms).2.1).2.1:Int)):=by
 have A:=zri s p bd cX hp;have K:=zee s p hp;unfold vB
 cases hr:x9 s p with
 | no q=>
  rw[hr] at A;have h0:(0:Int)<=((zG s q).2.1:Int):=by omega
  refine⟨λ h=>by simp at h,λ _=>?_⟩;unfold jG jI;rw[show (zI s p bd).2.2=((zG s q).2.1:Int) from A,zed h0];simp only[Bool.false_eq_true,if_false];exact zja (zdk h0).2
 | yes q pd ts pl=>
  rw[hr] at A;obtain⟨a1,a2,a3,a4,a5⟩:=A;have Ce:(zI s p bd).2.1=q:=by rw[a1]
  have Cf:(zI s p bd).2.2=bd:=by rw[a1]
  have K2:=zee s q a5;have hrel:zie num (zK s p bd) (uI s num p pd ts pl):=⟨rfl,rfl,a2,a3,λ h=>by simp[zK] at h,K.at_,a4⟩
  by_cases hw:(tok s q).kind=115/\(tok s q).text.toList=[58,45]
  ·have Ep:(tok s q).kind=115/\(tok s q).text.toList=({ data:=#[58,45] }:B8).toList:=⟨hw.1,by rw[hw.2,ByteArray.toList_eq]⟩;have h9:=K2.k9.2 hw;have h8:¬ (zG s q).1=8:=(by rw[h9];decide);have eB:jI s p bd=zb4 s 4 (tok s q).to bd []:=by
    unfold jI;rw[Ce,Cf,(zf5 cX).2 Ep,(zeb cX Ep).1,(zeb cX Ep).2];rfl
   have Ei:(tok s q).to<=s.size:=(by rw[<-K2.uF];exact (xT s q a5).2);have B:=z60 s num bd cX 3 (tok s q).to [] (ms++[uI s num p pd ts pl]) [] rfl Ei (rW.nil num);rw[List.map_nil,List.append_nil] at B;simp only[if_neg h8,if_pos h9,K2.uF];refine⟨λ h=>?_,λ h=>?_⟩
   ·obtain⟨r,ms',b1,b2,b3,b4,b5,b6,b7⟩:=B.1 h;have K3:=zee s r b3;have hs:=K3.k8.1 b2;have mh:(tok s r).kind=115/\(tok s r).text.toList=({ data:=#[46] }:B8).toList:=⟨hs.1,by rw[hs.2,ByteArray.toList_eq]⟩;have e1:(jI s p bd).2.1=r:=(by rw[eB,b1]);have e2:(jI s p bd).2.2=bd:=(by rw[eB,b1]);refine⟨uI s num p pd ts pl::ms',?_,?_,?_,?_,?_,?_⟩
    ·unfold zbi;rw[e1,e2,(zey cX mh).1,b4,K3.uF]
    ·unfold jG;rw[e1,e2,(zey cX mh).2]
    ·rw[b4];exact (xT s r b3).2
    ·rw[b5,<-eB];simp[yT,qZ,zK,a2,a3]
    ·rw[b6];simp
    ·rw[<-eB] at b7;exact rW.cons b7 hrel
   ·unfold jG;rw[eB];exact B.2 h
  ·have Ep:¬ ((tok s q).kind=115/\(tok s q).text.toList=({ data:=#[58,45] }:B8).toList):=λ h=>hw ⟨h.1,by rw[h.2,ByteArray.toList_eq]⟩
   have h9:¬ (zG s q).1=9:=λ h=>hw (K2.k9.1 h)
   have eB:jI s p bd=([],q,bd):=by
    unfold jI;rw[Ce,Cf,zlk cX Ep,(zec cX Ep).1,(zec cX Ep).2];rfl
   by_cases hs:(tok s q).kind=115/\(tok s q).text.toList=[46]
   ·have mh:(tok s q).kind=115/\(tok s q).text.toList=({ data:=#[46] }:B8).toList:=⟨hs.1,by rw[hs.2,ByteArray.toList_eq]⟩;have h8:=K2.k8.2 hs;simp only[if_pos h8];refine⟨λ _=>⟨[uI s num p pd ts pl],?_,?_,(xT s q a5).2,?_,rfl,?_⟩,λ h=>by simp at h⟩
    ·unfold zbi;rw[eB];simp only;rw[(zey cX mh).1,K2.uF]
    ·unfold jG;rw[eB];simp only;rw[(zey cX mh).2]
    ·simp[yT,qZ,zK,eB,a2,a3]
    ·have:(qZ s p bd).atoms=[zK s p bd]:=by simp[qZ,zP.atoms,eB]
     rw[this];exact rW.cons (rW.nil num) hrel
   ·have mh:¬ ((tok s q).kind=115/\(tok s q).text.toList=({ data:=#[46] }:B8).toList):=λ h=>hs ⟨h.1,by rw[h.2,ByteArray.toList_eq]⟩
    have h8:¬ (zG s q).1=8:=λ h=>hs (K2.k8.1 h)
    simp only[if_neg h8,if_neg h9];refine⟨λ h=>by simp at h,λ _=>?_⟩;unfold jG;rw[eB];simp only;rw[zr5 cX mh,K2.at_]
inductive jZ:Nat->List zP->List xU->Prop where
 | nil (n:Nat):jZ n [] []
 | cons {n:Nat} {R:zP} {rs:List zP} {ms ms':List xU} (h:rW n R.atoms ms) (t:jZ (n+1) rs ms'):jZ n (R::rs) (ms++ms')
theorem jZ.snoc {n:Nat}{rs:List zP}(h:jZ n rs ms):∀ {R:zP} {ms':List xU},rW (n+rs.length) R.atoms ms'->jZ n (rs++[R]) (ms++ms'):=by
 induction h with
 | nil n=>
  intro R ms' hm;have:=jZ.cons (rs:=[]) (ms':=[]) hm (jZ.nil _);simpa using this
 | cons h t ih=>
  intro R ms' hm;rw[List.append_assoc,List.cons_append];refine jZ.cons h (ih ?_);simpa[Nat.add_comm,Nat.add_left_comm,Nat.add_assoc] using hm
theorem z4v (s:B8)(bd:Int)(cX:bd<0):∀ (f p:Nat) (rs:List zP) (ms:List xU),rs.length+f=30->p<=s.size->jZ 0 rs ms ->
  ((jO s (f+1) p (rs.map yT) ms).1=true->(zbd s (f+1) p bd rs).2.2=bd/\(jO s (f+1) p (rs.map yT) ms).2.2.1=(zbd s (f+1) p bd rs).1.map yT/\jZ 0 (zbd s (f+1) p bd rs).1 (jO s (f+1) p (rs.map yT) ms).2.2.2) /\
  ((jO s (f+1) p (rs.map yT) ms).1=false->(zbd s (f+1) p bd rs).2.2=((zG s (jO s (f+1) p (rs.map yT) ms).2.1).2.1:Int)):=by
 intro f
 induction f with
 | zero=>
  intro p rs ms hl hp hT;have K:=zee s p hp;rw[jO,zbd]
  by_cases h0:(zG s p).1=0
  ·have hg:zbb s p bd=false:=(by unfold zbb;simp[K.k0.1 h0]);rw[if_pos h0,hg,if_neg (by decide)];exact⟨λ _=>⟨rfl,rfl,hT⟩,λ h=>by simp at h⟩
  ·have hg:zbb s p bd=true:=(by unfold zbb;simp[cX];exact λ h=>h0 (K.k0.2 h));rw[if_neg h0,if_pos (by simp;omega),hg,if_pos rfl];refine⟨λ h=>by simp at h,λ _=>?_⟩;have e:zE s p bd rs.length=((tok s p).at_:Int):=by
    unfold zE;rw[if_pos (by simp;omega),zg1 cX]
   have DX:(0:Int)<=((tok s p).at_:Int):=(by omega);simp only[zbd,e];unfold jG;have hb:(jI s p ((tok s p).at_:Int)).2.2=((tok s p).at_:Int):=by
    unfold jI;rw[zs4 DX,zed DX,(zdk DX).1,(zdk DX).2];rfl
   rw[zja hb,K.at_]
 | succ f ih=>
  intro p rs ms hl hp hT;have K:=zee s p hp;rw[jO,zbd]
  by_cases h0:(zG s p).1=0
  ·have hg:zbb s p bd=false:=(by unfold zbb;simp[K.k0.1 h0]);rw[if_pos h0,hg,if_neg (by decide)];exact⟨λ _=>⟨rfl,rfl,hT⟩,λ h=>by simp at h⟩
  ·have hg:zbb s p bd=true:=(by unfold zbb;simp[cX];exact λ h=>h0 (K.k0.2 h));have e:zE s p bd rs.length=bd:=(by unfold zE;rw[if_neg (by simp;omega)]);rw[if_neg h0,if_neg (by simp;omega),hg,if_pos rfl,e,List.length_map];have R:=z77 s rs.length p bd cX hp ms
   cases hr:(vB s rs.length p ms).1 with
   | true=>
    obtain⟨ms',r1,r2,r3,r4,r5,r6⟩:=R.1 hr;rw[if_pos rfl,r1,r2,r4,r5];have e2:rs.map yT++[yT (qZ s p bd)]=(rs++[qZ s p bd]).map yT:=(by simp);rw[e2];exact ih _ _ _ (by simp;omega) r3 (hT.snoc (by simpa using r6))
   | false=>
    have hb:=R.2 hr;rw[if_neg (by decide)];refine⟨λ h=>by simp at h,λ _=>?_⟩;have DX:zbb s (zbi s p bd) (jG s p bd)=false:=(by unfold zbb;rw[hb];simp);rw[zqk _ _ _ _ _ DX];exact hb
def yS (s:B8):Bool × Nat × List vX × List xU:=jO s 31 0 [] []
theorem zg7 (s:B8):
  ((yS s).1=true->(yO s).2.2=-1/\(yS s).2.2.1=(yO s).1.map yT/\jZ 0 (yO s).1 (yS s).2.2.2) /\
  ((yS s).1=false->(yO s).2.2=((zG s (yS s).2.1).2.1:Int)):=
 z4v s (-1) (by decide) 30 0 [] [] rfl (Nat.zero_le _) (jZ.nil 0)
end
end Go.Proofs.YtldkpahaocjdpaaGreat
