/-
  Plain: both readers read the same: the same atoms, literals, rules; or they stop at the same place.
-/
import Derived.Test.YtldkpahaocjdpaaGreatE13
set_option maxHeartbeats 16000000
set_option maxRecDepth 1000000
namespace Go.Proofs.YtldkpahaocjdpaaGreat
section
variable {bd:Int} {p:Nat} {s:B8}
theorem zgh (h:0<=bd):zU s p bd=bd/\zW s p bd=p:=by
 have e:zaw s p bd=bd:=by unfold zaw;rw[if_neg (by omega)]
 have e1:zU s p bd=bd:=by unfold zU;split;exact e;rfl
 exact⟨e1,by unfold zW;rw[e1,if_neg (by omega)]⟩
theorem zv8 (h:0<=bd):zaw s p bd=bd:=by unfold zaw;rw[if_neg (by omega)]
variable {wd:B8}
theorem zfg (h:0<=bd):dZ s p bd wd=false:=by
 unfold dZ;simp;intro h1;omega
theorem zel (h:0<=bd):vF s p bd wd=p/\vO s p bd wd=bd:=by
 unfold vF vO;rw[zfg h];exact⟨rfl,rfl⟩
theorem zwo (h:0<=bd):xM s p bd wd=bd:=by
 unfold xM;rw[zfg h];exact zv8 h
theorem zvp (h:0<=bd):(zH s p bd).2.2=bd:=by
 have e1:z6 s p bd=bd:=by unfold z6;split;exact zv8 h;rfl
 have e2:zaj s p bd=bd:=by unfold zaj;rw[e1];exact (zgh h).1
 unfold zH;rw[e2,zfg h];exact (zel h).2
theorem ybe (h:0<=bd):(yE s p bd).2=bd:=by
 have e1:zj4 s p bd=false:=by unfold zj4;simp;intro h1;omega
 unfold yE vS yW;rw[e1];exact zvp h
theorem zgg (h:bd<0)(h1:(tok s p).kind≠33)(h2:(tok s p).kind≠46):zU s p bd=bd/\zW s p bd=(tok s p).to:=by
 have e1:zU s p bd=bd:=by unfold zU;rw[if_neg (by simp[h1,h2])]
 exact⟨e1,by unfold zW;rw[e1,if_pos h]⟩
theorem zh5 (h:bd<0):zaw s p bd=(tok s p).at_:=by unfold zaw;rw[if_pos h]
theorem zhd (h:bd<0):dZ s p bd wd=true↔((tok s p).kind=115/\(tok s p).text.toList=wd.toList):=by
 unfold dZ;simp[h]
theorem zn5 (h:bd<0)(hn:¬ ((tok s p).kind=115/\(tok s p).text.toList=wd.toList)):dZ s p bd wd=false:=by
 cases e:dZ s p bd wd with
 | false=>rfl
 | true=>exact absurd ((zhd h).1 e) hn
theorem zfe (h:bd<0)(hy:(tok s p).kind=115/\(tok s p).text.toList=wd.toList):vF s p bd wd=(tok s p).to/\vO s p bd wd=bd:=by
 have e:=(zhd (wd:=wd) h).2 hy;have t:=zgg h (by rw[hy.1];decide) (by rw[hy.1];decide);unfold vF vO;rw[e];exact⟨t.2,t.1⟩
theorem zff (h:bd<0)(hn:¬ ((tok s p).kind=115/\(tok s p).text.toList=wd.toList)):vF s p bd wd=p/\vO s p bd wd=bd:=by
 unfold vF vO;rw[zn5 h hn];exact⟨rfl,rfl⟩
theorem zej (c:UInt8):(chr c).toList=[c]:=by
 rw[ByteArray.toList_eq]
def ed (t:xD):Bool × B8:=(t.isVar,t.text)
variable {l:List xD}
theorem zot (f:Nat)(h:bd<0)(hn:¬ ((tok s p).kind=110\/(tok s p).kind=118)\/l.length=4):(qG s (f+1) p bd l).2.2=(tok s p).at_:=by
 have e:zQ s p bd l.length=(tok s p).at_:=by
  unfold zQ;rw[if_pos,zh5 h];rcases hn with hn | hn
  ·simp[not_or.1 hn]
  ·simp[hn]
 have h0:(0:Int)<=(tok s p).at_:=by omega
 rw[qG];simp only[e,(zgh h0).1,(zgh h0).2,zfg h0,(zel h0).1,(zel h0).2,zwo h0];rfl
theorem z8x (f:Nat)(h:bd<0)(hk:(tok s p).kind=110\/(tok s p).kind=118)(hl:l.length≠4)(hc:(tok s (tok s p).to).kind=115/\(tok s (tok s p).to).text.toList=[44]):
  qG s (f+1) p bd l=qG s f (tok s (tok s p).to).to bd (l++[z7 s p]):=by
 have e:zQ s p bd l.length=bd:=by
  unfold zQ;rw[if_neg];rcases hk with hk | hk <;> simp[hk,hl]
 have t:=zgg h (p:=p) (s:=s) (by rcases hk with hk | hk <;> rw[hk] <;> decide) (by rcases hk with hk | hk <;> rw[hk] <;> decide);rw[<-zej] at hc;rw[qG];simp only[e,t.1,t.2,(zfe h hc).1,(zfe h hc).2,(zhd h).2 hc,if_true]
theorem z5d (f:Nat)(h:bd<0)(hk:(tok s p).kind=110\/(tok s p).kind=118)(hl:l.length≠4)(hc:¬ ((tok s (tok s p).to).kind=115/\(tok s (tok s p).to).text.toList=[44])):
  qG s (f+1) p bd l=(l++[z7 s p],zW s (tok s p).to (xM s (tok s p).to bd (chr 41)),zU s (tok s p).to (xM s (tok s p).to bd (chr 41))):=by
 have e:zQ s p bd l.length=bd:=by
  unfold zQ;rw[if_neg];rcases hk with hk | hk <;> simp[hk,hl]
 have t:=zgg h (p:=p) (s:=s) (by rcases hk with hk | hk <;> rw[hk] <;> decide) (by rcases hk with hk | hk <;> rw[hk] <;> decide);rw[<-zej] at hc;rw[qG];simp only[e,t.1,t.2,(zff h hc).1,(zff h hc).2,zn5 h hc];rfl
theorem zgb (h:bd<0)(hy:(tok s p).kind=115/\(tok s p).text.toList=wd.toList):zW s p (xM s p bd wd)=(tok s p).to/\zU s p (xM s p bd wd)=bd:=by
 have t:=zgg h (by rw[hy.1];decide) (by rw[hy.1];decide);unfold xM;rw[(zhd h).2 hy];exact⟨t.2,t.1⟩
theorem zup (h:bd<0)(hn:¬ ((tok s p).kind=115/\(tok s p).text.toList=wd.toList)):zU s p (xM s p bd wd)=(tok s p).at_:=by
 unfold xM;rw[zn5 h hn];simp only[Bool.false_eq_true,if_false,zh5 h];exact (zgh (by omega)).1
theorem zzo {pl:Nat->Nat}{t:xD}(bt:∀ i (h:i<l.length),pl i=(l[i]).at_):∀ i (h:i<(l++[t]).length),fc pl l.length t.at_ i=((l++[t])[i]).at_:=by
 intro i h
 by_cases e:i=l.length
 ·subst e;simp[fc]
 ·have h1:i<l.length:=by simp at h;omega
  rw[List.getElem_append_left h1];simp[fc,e,bt i h1]
theorem z8w (s:B8)(bd:Int)(dh:bd<0):∀ (f p:Nat) (l:List xD) (pl:Nat->Nat),l.length+f=4->p<=s.size->(∀ i (h:i<l.length),pl i=(l[i]).at_) ->
  ((yB s f p (l.map ed) pl).1=true->(qG s (f+1) p bd l).2=((yB s f p (l.map ed) pl).2.1,bd)/\(yB s f p (l.map ed) pl).2.2.1=(qG s (f+1) p bd l).1.map ed/\(∀ i (h:i<(qG s (f+1) p bd l).1.length),(yB s f p (l.map ed) pl).2.2.2 i=((qG s (f+1) p bd l).1[i]).at_)/\(yB s f p (l.map ed) pl).2.1<=s.size) /\
  ((yB s f p (l.map ed) pl).1=false->(qG s (f+1) p bd l).2.2=((zF s (yB s f p (l.map ed) pl).2.1).2.1:Int)):=by
 intro f
 induction f with
 | zero=>
  intro p l pl hl hp _;refine⟨λ h=>by simp[yB] at h,λ _=>?_⟩;rw[zot 0 dh (.inr (by omega))];simp only[yB];rw[(zfh s p hp).at_]
 | succ f ih=>
  intro p l pl hl hp bt;have K:=zfh s p hp;have EG:(tok s p).to<=s.size:=by rw[<-K.sm];exact (xT s p hp).2
  have K2:=zfh s (tok s p).to EG;have Dp:(tok s (tok s p).to).to<=s.size:=by rw[<-K2.sm];exact (xT s _ EG).2
  by_cases hk:(tok s p).kind=110\/(tok s p).kind=118
  ·have lz:(zF s p).1=2\/(zF s p).1=3:=(by rw[K.k2,K.k3];exact hk);have Lz:(l.map ed)++[(decide ((zF s p).1=3),xQ s p)]=(l++[z7 s p]).map ed:=by
    rw[List.map_append];simp only[List.map_cons,List.map_nil,ed,z7];rw[K.word hk];have:decide ((zF s p).1=3)=((tok s p).kind==118):=by
     rw[Bool.eq_iff_iff];simp[K.k3]
    rw[this]
   have QU:∀ i (h:i<(l++[z7 s p]).length),fc pl l.length (zF s p).2.1 i=((l++[z7 s p])[i]).at_:=by
    rw[K.at_];exact zzo (t:=z7 s p) bt
   rw[yB,if_pos lz,K.sm,Lz,List.length_map]
   by_cases hc:(tok s (tok s p).to).kind=115/\(tok s (tok s p).to).text.toList=[44]
   ·rw[if_pos (K2.k7.2 hc),K2.sm,z8x (f+1) dh hk (by omega) hc];exact ih _ _ _ (by simp;omega) Dp QU
   ·rw[if_neg (λ e=>hc (K2.k7.1 e)),z5d (f+1) dh hk (by omega) hc]
    by_cases hs:(tok s (tok s p).to).kind=115/\(tok s (tok s p).to).text.toList=[41]
    ·have hr:yM s (tok s p).to 6=(tok s (tok s p).to).to:=(by unfold yM;rw[K2.k6.2 hs];exact K2.sm);rw[<-zej] at hs;refine⟨λ _=>⟨?_,rfl,QU,by simp only[hr];exact Dp⟩,λ h=>?_⟩
     ·simp only[(zgb dh hs).1,(zgb dh hs).2,hr]
     ·rw[zej] at hs;simp[K2.k6.2 hs] at h
    ·have h6:¬ (zF s (tok s p).to).1=6:=λ e=>hs (K2.k6.1 e)
     have hr:yM s (tok s p).to 6=(tok s p).to:=(by unfold yM;rw[if_neg (by simpa using h6)]);rw[<-zej] at hs;refine⟨λ h=>by simp[h6] at h,λ _=>?_⟩;simp only[zup dh hs,hr];rw[K2.at_]
  ·have lz:¬ ((zF s p).1=2\/(zF s p).1=3):=(by rw[K.k2,K.k3];exact hk);rw[yB,if_neg lz];refine⟨λ h=>by simp at h,λ _=>?_⟩;rw[zot (f+1) dh (.inl hk)];simp only;rw[K.at_]
def zqr (s:B8)(p:Nat)(bd:Int)(r:yd2):Prop:=
 match r with
 | .no q=>(zH s p bd).2.2=((zF s q).2.1:Int)
 | .yes q pd ts pl=>(zH s p bd).2=(q,bd)/\pd=(tok s p).text/\ts=(zH s p bd).1.map ed/\(∀ i (h:i<(zH s p bd).1.length),pl i=((zH s p bd).1[i]).at_)/\q<=s.size
theorem ztu (s:B8)(p:Nat)(bd:Int)(dh:bd<0)(hp:p<=s.size):zqr s p bd (vD s p):=by
 have K:=zfh s p hp;have EG:(tok s p).to<=s.size:=by rw[<-K.sm];exact (xT s p hp).2
 have K2:=zfh s (tok s p).to EG;have Dp:(tok s (tok s p).to).to<=s.size:=by rw[<-K2.sm];exact (xT s _ EG).2
 unfold vD
 by_cases hk:(tok s p).kind=110
 ·rw[if_pos (K.k2.2 hk),K.sm,K.word (.inl hk)];have b1:z6 s p bd=bd:=by unfold z6;simp[hk]
  have t:=zgg dh (p:=p) (s:=s) (by rw[hk];decide) (by rw[hk];decide);have b2:zaj s p bd=bd:=by unfold zaj;rw[b1];exact t.1
  have p2:zc9 s p bd=(tok s p).to:=by unfold zc9;rw[b1];exact t.2
  by_cases ho:(tok s (tok s p).to).kind=115/\(tok s (tok s p).to).text.toList=[40]
  ·rw[if_pos (K2.k5.2 ho),K2.sm];have e:zH s p bd=qG s 5 (tok s (tok s p).to).to bd []:=by
    rw[<-zej] at ho;unfold zH;rw[b2,p2,(zhd dh).2 ho,(zfe dh ho).1,(zfe dh ho).2];rfl
   have T:=z8w s bd dh 4 (tok s (tok s p).to).to [] (λ _=>0) rfl Dp (by simp);rw[List.map_nil] at T
   cases hP:(yB s 4 (tok s (tok s p).to).to [] (λ _=>0)).1 with
   | true=>
    rw[if_pos rfl];obtain⟨t1,t2,t3,t4⟩:=T.1 hP;unfold zqr;simp only[e];exact⟨t1,trivial,t2,t3,t4⟩
   | false=>
    rw[if_neg (by decide)];unfold zqr;simp only[e];exact T.2 hP
  ·rw[if_neg (λ h=>ho (K2.k5.1 h))];have e:zH s p bd=([],(tok s p).to,bd):=by
    rw[<-zej] at ho;unfold zH;rw[b2,p2,zn5 dh ho,(zff dh ho).1,(zff dh ho).2];rfl
   unfold zqr;simp only[e];exact⟨trivial,trivial,by simp,by simp,EG⟩
 ·rw[if_neg (λ h=>hk (K.k2.1 h))];unfold zqr;have b1:z6 s p bd=(tok s p).at_:=by unfold z6;simp[hk,zh5 dh]
  have h0:(0:Int)<=(tok s p).at_:=by omega
  have b2:zaj s p bd=(tok s p).at_:=by unfold zaj;rw[b1];exact (zgh h0).1
  simp only;rw[K.at_];unfold zH;rw[b2,zfg h0];exact (zel (s:=s) (wd:=chr 40) (p:=zc9 s p bd) h0).2
end
section
structure zji (num:Nat)(A:zL)(M:xU):Prop where
 num:M.num=num
 neg:M.neg=A.no
 pd:M.pd=A.pred
 ts:M.ts=A.ae.map ed
 start:A.no=true->M.start=A.az
 place:M.place=A.at_
 pl:∀ i (h:i<A.ae.length),M.pl i=(A.ae[i]).at_
def lP (A:zL):vK:=⟨A.no,A.pred,A.ae.map ed⟩
def yO (R:zS):vY:=⟨R.head.pred,R.head.ae.map ed,R.body.map lP⟩
def oz (num:Nat)(l:List zL)(ms:List xU):Prop:=∃ q:List (zL × xU),q.map (·.1)=l/\q.map (·.2)=ms/\∀ x∈q,zji num x.1 x.2
theorem oz.nil (num:Nat):oz num [] []:=⟨[],rfl,rfl,by simp⟩
variable {M:xU} {A:zL} {ms:List xU} {l:List zL}
theorem oz.snoc {num:Nat}(h:oz num l ms)(hm:zji num A M):oz num (l++[A]) (ms++[M]):=by
 obtain⟨q,h1,h2,h3⟩:=h;refine⟨q++[(A,M)],by simp[h1],by simp[h2],λ x hx=>?_⟩;rcases List.mem_append.1 hx with hx | hx
 ·exact h3 x hx
 ·simp at hx;subst hx;exact hm
theorem oz.cons {num:Nat}(h:oz num l ms)(hm:zji num A M):oz num (A::l) (M::ms):=by
 obtain⟨q,h1,h2,h3⟩:=h;refine⟨(A,M)::q,by simp[h1],by simp[h2],λ x hx=>?_⟩;rcases List.mem_cons.1 hx with hx | hx
 ·subst hx;exact hm
 ·exact h3 x hx
theorem z28 (s:B8)(p:Nat)(bd:Int)(dh:bd<0)(hp:p<=s.size):zj4 s p bd=((zF s p).1==4)/\yW s p bd=yM s p 4/\vS s p bd=bd:=by
 have K:=zfh s p hp;have e:zj4 s p bd=((zF s p).1==4):=by
  unfold zj4;rw[Bool.eq_iff_iff];simp[dh,K.k4]
 by_cases h:(zF s p).1=4
 ·have hk:=K.k4.1 h;have t:=zgg dh (p:=p) (s:=s) (by rw[hk];decide) (by rw[hk];decide);have hb:((zF s p).1==4)=true:=by simpa using h
  refine⟨e,?_,?_⟩
  ·unfold yW yM;rw[e,if_pos hb,if_pos hb,t.2,K.sm]
  ·unfold vS;rw[e,if_pos hb,t.1]
 ·have hb:¬ ((zF s p).1==4)=true:=by simpa using h
  refine⟨e,?_,?_⟩
  ·unfold yW yM;rw[e,if_neg hb,if_neg hb]
  ·unfold vS;rw[e,if_neg hb]
variable {p:Nat} {s:B8}
theorem zsr {k:Int}(h:p<=s.size):yM s p k<=s.size:=by
 unfold yM;split
 ·exact (xT s p h).2
 ·exact h
theorem ydi (s:B8)(num p:Nat)(bd:Int)(dh:bd<0)(hp:p<=s.size):
  match vD s (yM s p 4) with
  | .no q=>(yE s p bd).2=((zF s q).2.1:Int)
  | .yes q pd ts pl=>yE s p bd=(q,bd)/\uH s p pd ts=lP (vB s p bd)/\zji num (vB s p bd) (BS s num p pd ts pl)/\q<=s.size:=by
 obtain⟨f1,f2,f3⟩:=z28 s p bd dh hp;have A:=ztu s (yM s p 4) bd dh (zsr hp);have K:=zfh s p hp;have K2:=zfh s (yM s p 4) (zsr hp);unfold yE vB;rw[f1,f2,f3]
 cases hr:vD s (yM s p 4) with
 | no q=>rw[hr] at A;exact A
 | yes q pd ts pl=>
  rw[hr] at A;obtain⟨a1,a2,a3,a4,a5⟩:=A;refine⟨a1,by simp[uH,lP,a2,a3],⟨rfl,rfl,a2,a3,λ _=>K.at_,K2.at_,a4⟩,a5⟩
theorem zvr (s:B8)(f p:Nat)(bd:Int)(l:List zL):zco s (f+1) p bd l =
  if dZ s (yE s p (zX s p bd l.length)).1 (yE s p (zX s p bd l.length)).2 { data:=#[44] } then
   zco s f (vF s (yE s p (zX s p bd l.length)).1 (yE s p (zX s p bd l.length)).2 { data:=#[44] }) (vO s (yE s p (zX s p bd l.length)).1 (yE s p (zX s p bd l.length)).2 { data:=#[44] }) (l++[vB s p (zX s p bd l.length)])
  else (l++[vB s p (zX s p bd l.length)],vF s (yE s p (zX s p bd l.length)).1 (yE s p (zX s p bd l.length)).2 { data:=#[44] },vO s (yE s p (zX s p bd l.length)).1 (yE s p (zX s p bd l.length)).2 { data:=#[44] }):=by rw[zco]
theorem zvs (s:B8)(f p:Nat)(bd:Int)(l:List zL)(a:Nat)(h:(yE s p (zX s p bd l.length)).2=(a:Int)):(zco s (f+1) p bd l).2.2=(a:Int):=by
 have h0:(0:Int)<=(a:Int):=by omega
 rw[zvr,h,zfg h0,(zel h0).1,(zel h0).2];rfl
theorem zkj {bd:Int}{a:Nat}{wd:B8}(h:bd=(a:Int)):zU s p (xM s p bd wd)=(a:Int):=by
 have h0:(0:Int)<=(a:Int):=by omega
 subst h;rw[zwo h0];exact (zgh h0).1
theorem yar (s:B8)(num:Nat)(bd:Int)(dh:bd<0):∀ (f p:Nat) (l:List zL) (iB ms:List xU),l.length+f=3->p<=s.size->oz num l ms ->
  ((jG s num f p (l.map lP) (iB++ms)).1=true->∃ q ms',(zco s (f+1) p bd l).2=(q,bd)/\(zF s q).1=8/\q<=s.size/\(jG s num f p (l.map lP) (iB++ms)).2.1=(zF s q).2.2/\(jG s num f p (l.map lP) (iB++ms)).2.2.1=(zco s (f+1) p bd l).1.map lP/\(jG s num f p (l.map lP) (iB++ms)).2.2.2=iB++ms'/\oz num (zco s (f+1) p bd l).1 ms') /\
  ((jG s num f p (l.map lP) (iB++ms)).1=false->zU s (zco s (f+1) p bd l).2.1 (xM s (zco s (f+1) p bd l).2.1 (zco s (f+1) p bd l).2.2 { data:=#[46] })=((zF s (jG s num f p (l.map lP) (iB++ms)).2.1).2.1:Int)):=by
 intro f
 induction f with
 | zero=>
  intro p l iB ms hl hp _;have K:=zfh s p hp;refine⟨λ h=>by simp[jG] at h,λ _=>?_⟩;have e:zX s p bd l.length=((tok s p).at_:Int):=by
   unfold zX;have:(l.length==3)=true:=by simp;omega
   rw[if_pos this,zh5 dh]
  have h0:(0:Int)<=((tok s p).at_:Int):=by omega
  have hb:=zvs s 0 p bd l (tok s p).at_ (by rw[e];exact ybe h0);simp only[jG];rw[zkj hb,K.at_]
 | succ f ih=>
  intro p l iB ms hl hp hM;have e:zX s p bd l.length=bd:=by
   unfold zX;have:¬ (l.length==3)=true:=by simp;omega
   rw[if_neg this]
  have L:=ydi s num p bd dh hp;rw[jG]
  cases hr:vD s (yM s p 4) with
  | no q=>
   rw[hr] at L;have hb:=zvs s (f+1) p bd l (zF s q).2.1 (by rw[e];exact L);refine⟨λ h=>by simp at h,λ _=>?_⟩;rw[zkj hb]
  | yes q pd ts pl=>
   rw[hr] at L;obtain⟨l1,l2,l3,l4⟩:=L;have K:=zfh s q l4;have vh:l.map lP++[uH s p pd ts]=(l++[vB s p bd]).map lP:=(by simp[l2]);have nx:iB++ms++[BS s num p pd ts pl]=iB++(ms++[BS s num p pd ts pl]):=(by simp);have Tl:=hM.snoc l3;rw[zvr,e,l1];simp only;rw[vh,nx]
   by_cases hc:(tok s q).kind=115/\(tok s q).text.toList=[44]
   ·have gY:(tok s q).kind=115/\(tok s q).text.toList=({ data:=#[44] }:B8).toList:=⟨hc.1,by rw[hc.2,ByteArray.toList_eq]⟩;rw[if_pos (K.k7.2 hc),K.sm,(zhd dh).2 gY,(zfe dh gY).1,(zfe dh gY).2,if_pos rfl];exact ih _ _ _ _ (by simp;omega) (by rw[<-K.sm];exact (xT s q l4).2) Tl
   ·have gY:¬ ((tok s q).kind=115/\(tok s q).text.toList=({ data:=#[44] }:B8).toList):=λ h=>hc ⟨h.1,by rw[h.2,ByteArray.toList_eq]⟩
    rw[if_neg (λ h=>hc (K.k7.1 h)),zn5 dh gY,(zff dh gY).1,(zff dh gY).2,if_neg (by decide)]
    by_cases hs:(tok s q).kind=115/\(tok s q).text.toList=[46]
    ·have h8:=K.k8.2 hs;have xm:yM s q 8=(zF s q).2.2:=(by unfold yM;rw[if_pos (by simpa using h8)]);refine⟨λ _=>⟨q,ms++[BS s num p pd ts pl],rfl,h8,l4,xm,rfl,rfl,Tl⟩,λ h=>by simp[h8] at h⟩
    ·have h8:¬ (zF s q).1=8:=λ h=>hs (K.k8.1 h)
     have xm:yM s q 8=q:=(by unfold yM;rw[if_neg (by simpa using h8)]);have mh:¬ ((tok s q).kind=115/\(tok s q).text.toList=({ data:=#[46] }:B8).toList):=λ h=>hs ⟨h.1,by rw[h.2,ByteArray.toList_eq]⟩
     refine⟨λ h=>by simp[h8] at h,λ _=>?_⟩;simp only[xm];rw[zup dh mh,K.at_]
theorem yb7 (s:B8)(num p:Nat)(bd:Int)(dh:bd<0)(hp:p<=s.size)(ms:List xU):
  ((vG s num p ms).1=true->∃ ms',zb2 s p bd=(vG s num p ms).2.1/\jK s p bd=bd/\(vG s num p ms).2.1<=s.size/\(vG s num p ms).2.2.1=yO (zas s p bd)/\(vG s num p ms).2.2.2=ms++ms'/\oz num (zas s p bd).atoms ms') /\
  ((vG s num p ms).1=false->jK s p bd=((zF s (vG s num p ms).2.1).2.1:Int)):=by
 have A:=ztu s p bd dh hp;have K:=zfh s p hp;unfold vG
 cases hr:vD s p with
 | no q=>
  rw[hr] at A;have h0:(0:Int)<=((zF s q).2.1:Int):=by omega
  refine⟨λ h=>by simp at h,λ _=>?_⟩;unfold jK jM;rw[show (zH s p bd).2.2=((zF s q).2.1:Int) from A,zfg h0];simp only[Bool.false_eq_true,if_false];exact zkj (zel h0).2
 | yes q pd ts pl=>
  rw[hr] at A;obtain⟨a1,a2,a3,a4,a5⟩:=A;have AG:(zH s p bd).2.1=q:=by rw[a1]
  have AH:(zH s p bd).2.2=bd:=by rw[a1]
  have K2:=zfh s q a5;have hrel:zji num (zI s p bd) (su s num p pd ts pl):=⟨rfl,rfl,a2,a3,λ h=>by simp[zI] at h,K.at_,a4⟩
  by_cases hw:(tok s q).kind=115/\(tok s q).text.toList=[58,45]
  ·have GB:(tok s q).kind=115/\(tok s q).text.toList=({ data:=#[58,45] }:B8).toList:=⟨hw.1,by rw[hw.2,ByteArray.toList_eq]⟩;have h9:=K2.k9.2 hw;have h8:¬ (zF s q).1=8:=(by rw[h9];decide);have eB:jM s p bd=zco s 4 (tok s q).to bd []:=by
    unfold jM;rw[AG,AH,(zhd dh).2 GB,(zfe dh GB).1,(zfe dh GB).2];rfl
   have Di:(tok s q).to<=s.size:=(by rw[<-K2.sm];exact (xT s q a5).2);have B:=yar s num bd dh 3 (tok s q).to [] (ms++[su s num p pd ts pl]) [] rfl Di (oz.nil num);rw[List.map_nil,List.append_nil] at B;simp only[if_neg h8,if_pos h9,K2.sm];refine⟨λ h=>?_,λ h=>?_⟩
   ·obtain⟨r,ms',b1,b2,b3,b4,b5,b6,b7⟩:=B.1 h;have K3:=zfh s r b3;have hs:=K3.k8.1 b2;have mh:(tok s r).kind=115/\(tok s r).text.toList=({ data:=#[46] }:B8).toList:=⟨hs.1,by rw[hs.2,ByteArray.toList_eq]⟩;have e1:(jM s p bd).2.1=r:=(by rw[eB,b1]);have e2:(jM s p bd).2.2=bd:=(by rw[eB,b1]);refine⟨su s num p pd ts pl::ms',?_,?_,?_,?_,?_,?_⟩
    ·unfold zb2;rw[e1,e2,(zgb dh mh).1,b4,K3.sm]
    ·unfold jK;rw[e1,e2,(zgb dh mh).2]
    ·rw[b4];exact (xT s r b3).2
    ·rw[b5,<-eB];simp[yO,zas,zI,a2,a3]
    ·rw[b6];simp
    ·rw[<-eB] at b7;exact oz.cons b7 hrel
   ·unfold jK;rw[eB];exact B.2 h
  ·have GB:¬ ((tok s q).kind=115/\(tok s q).text.toList=({ data:=#[58,45] }:B8).toList):=λ h=>hw ⟨h.1,by rw[h.2,ByteArray.toList_eq]⟩
   have h9:¬ (zF s q).1=9:=λ h=>hw (K2.k9.1 h)
   have eB:jM s p bd=([],q,bd):=by
    unfold jM;rw[AG,AH,zn5 dh GB,(zff dh GB).1,(zff dh GB).2];rfl
   by_cases hs:(tok s q).kind=115/\(tok s q).text.toList=[46]
   ·have mh:(tok s q).kind=115/\(tok s q).text.toList=({ data:=#[46] }:B8).toList:=⟨hs.1,by rw[hs.2,ByteArray.toList_eq]⟩;have h8:=K2.k8.2 hs;simp only[if_pos h8];refine⟨λ _=>⟨[su s num p pd ts pl],?_,?_,(xT s q a5).2,?_,rfl,?_⟩,λ h=>by simp at h⟩
    ·unfold zb2;rw[eB];simp only;rw[(zgb dh mh).1,K2.sm]
    ·unfold jK;rw[eB];simp only;rw[(zgb dh mh).2]
    ·simp[yO,zas,zI,eB,a2,a3]
    ·have:(zas s p bd).atoms=[zI s p bd]:=by simp[zas,zS.atoms,eB]
     rw[this];exact oz.cons (oz.nil num) hrel
   ·have mh:¬ ((tok s q).kind=115/\(tok s q).text.toList=({ data:=#[46] }:B8).toList):=λ h=>hs ⟨h.1,by rw[h.2,ByteArray.toList_eq]⟩
    have h8:¬ (zF s q).1=8:=λ h=>hs (K2.k8.1 h)
    simp only[if_neg h8,if_neg h9];refine⟨λ h=>by simp at h,λ _=>?_⟩;unfold jK;rw[eB];simp only;rw[zup dh mh,K2.at_]
inductive qD:Nat->List zS->List xU->Prop where
 | nil (n:Nat):qD n [] []
 | cons {n:Nat} {R:zS} {rs:List zS} {ms ms':List xU} (h:oz n R.atoms ms) (t:qD (n+1) rs ms'):qD n (R::rs) (ms++ms')
theorem qD.snoc {n:Nat}{rs:List zS}(h:qD n rs ms):∀ {R:zS} {ms':List xU},oz (n+rs.length) R.atoms ms'->qD n (rs++[R]) (ms++ms'):=by
 induction h with
 | nil n=>
  intro R ms' hm;have:=qD.cons (rs:=[]) (ms':=[]) hm (qD.nil _);simpa using this
 | cons h t ih=>
  intro R ms' hm;rw[List.append_assoc,List.cons_append];refine qD.cons h (ih ?_);simpa[Nat.add_comm,Nat.add_left_comm,Nat.add_assoc] using hm
theorem z8g (s:B8)(bd:Int)(dh:bd<0):∀ (f p:Nat) (rs:List zS) (ms:List xU),rs.length+f=30->p<=s.size->qD 0 rs ms ->
  ((jW s (f+1) p (rs.map yO) ms).1=true->(zbz s (f+1) p bd rs).2.2=bd/\(jW s (f+1) p (rs.map yO) ms).2.2.1=(zbz s (f+1) p bd rs).1.map yO/\qD 0 (zbz s (f+1) p bd rs).1 (jW s (f+1) p (rs.map yO) ms).2.2.2) /\
  ((jW s (f+1) p (rs.map yO) ms).1=false->(zbz s (f+1) p bd rs).2.2=((zF s (jW s (f+1) p (rs.map yO) ms).2.1).2.1:Int)):=by
 intro f
 induction f with
 | zero=>
  intro p rs ms hl hp hT;have K:=zfh s p hp;rw[jW,zbz]
  by_cases h0:(zF s p).1=0
  ·have hg:zbu s p bd=false:=(by unfold zbu;simp[K.k0.1 h0]);rw[if_pos h0,hg,if_neg (by decide)];exact⟨λ _=>⟨rfl,rfl,hT⟩,λ h=>by simp at h⟩
  ·have hg:zbu s p bd=true:=(by unfold zbu;simp[dh];exact λ h=>h0 (K.k0.2 h));rw[if_neg h0,if_pos (by simp;omega),hg,if_pos rfl];refine⟨λ h=>by simp at h,λ _=>?_⟩;have e:zE s p bd rs.length=((tok s p).at_:Int):=by
    unfold zE;rw[if_pos (by simp;omega),zh5 dh]
   have xa:(0:Int)<=((tok s p).at_:Int):=(by omega);simp only[zbz,e];unfold jK;have hb:(jM s p ((tok s p).at_:Int)).2.2=((tok s p).at_:Int):=by
    unfold jM;rw[zvp xa,zfg xa,(zel xa).1,(zel xa).2];rfl
   rw[zkj hb,K.at_]
 | succ f ih=>
  intro p rs ms hl hp hT;have K:=zfh s p hp;rw[jW,zbz]
  by_cases h0:(zF s p).1=0
  ·have hg:zbu s p bd=false:=(by unfold zbu;simp[K.k0.1 h0]);rw[if_pos h0,hg,if_neg (by decide)];exact⟨λ _=>⟨rfl,rfl,hT⟩,λ h=>by simp at h⟩
  ·have hg:zbu s p bd=true:=(by unfold zbu;simp[dh];exact λ h=>h0 (K.k0.2 h));have e:zE s p bd rs.length=bd:=(by unfold zE;rw[if_neg (by simp;omega)]);rw[if_neg h0,if_neg (by simp;omega),hg,if_pos rfl,e,List.length_map];have R:=yb7 s rs.length p bd dh hp ms
   cases hr:(vG s rs.length p ms).1 with
   | true=>
    obtain⟨ms',r1,r2,r3,r4,r5,r6⟩:=R.1 hr;rw[if_pos rfl,r1,r2,r4,r5];have e2:rs.map yO++[yO (zas s p bd)]=(rs++[zas s p bd]).map yO:=(by simp);rw[e2];exact ih _ _ _ (by simp;omega) r3 (hT.snoc (by simpa using r6))
   | false=>
    have hb:=R.2 hr;rw[if_neg (by decide)];refine⟨λ h=>by simp at h,λ _=>?_⟩;have xa:zbu s (zb2 s p bd) (jK s p bd)=false:=(by unfold zbu;rw[hb];simp);rw[zsu _ _ _ _ _ xa];exact hb
def yL (s:B8):Bool × Nat × List vY × List xU:=jW s 31 0 [] []
theorem zig (s:B8):
  ((yL s).1=true->(yG s).2.2=-1/\(yL s).2.2.1=(yG s).1.map yO/\qD 0 (yG s).1 (yL s).2.2.2) /\
  ((yL s).1=false->(yG s).2.2=((zF s (yL s).2.1).2.1:Int)):=
 z8g s (-1) (by decide) 30 0 [] [] rfl (Nat.zero_le _) (qD.nil 0)
end
end Go.Proofs.YtldkpahaocjdpaaGreat
