/-
  Plain: both readers read the same rules, and mention the same atoms; or they stop at the same place.
-/
import Derived.Test.YtldkpahaocjdpaaGreatR10
set_option maxHeartbeats 16000000
set_option maxRecDepth 1000000
namespace Go.Proofs.YtldkpahaocjdpaaGreat
section
structure zjq (num:Nat)(A:yX)(M:yS):Prop where
 num:M.num=num
 neg:M.neg=A.no
 pd:M.pd=A.pred
 ts:M.ts=A.aS.map a8
 start:A.no=true->M.start=A.lS
 place:M.place=A.at_
 pl:∀ i (h:i<A.aS.length),M.pl i=(A.aS[i]).at_
def bl (A:yX):yR:=⟨A.no,A.pred,A.aS.map a8⟩
def yU (R:yT):yH:=⟨R.head.pred,R.head.aS.map a8,R.body.map bl⟩
def cK (num:Nat)(l:List yX)(ms:List yS):Prop:=∃ q:List (yX × yS),q.map (·.1)=l/\q.map (·.2)=ms/\∀ x∈q,zjq num x.1 x.2
theorem cK.nil (num:Nat):cK num [] []:=⟨[],rfl,rfl,by simp⟩
variable {M:yS} {A:yX} {ms:List yS} {l:List yX}
theorem cK.snoc {num:Nat}(h:cK num l ms)(hm:zjq num A M):cK num (l++[A]) (ms++[M]):=by
 obtain⟨q,h1,h2,h3⟩:=h;refine⟨q++[(A,M)],by simp[h1],by simp[h2],λ x hx=>?_⟩;rcases List.mem_append.1 hx with hx | hx
 ·exact h3 x hx
 ·simp at hx;subst hx;exact hm
theorem cK.cons {num:Nat}(h:cK num l ms)(hm:zjq num A M):cK num (A::l) (M::ms):=by
 obtain⟨q,h1,h2,h3⟩:=h;refine⟨(A,M)::q,by simp[h1],by simp[h2],λ x hx=>?_⟩;rcases List.mem_cons.1 hx with hx | hx
 ·subst hx;exact hm
 ·exact h3 x hx
theorem z3h (s:B8)(p:Nat)(bd:Int)(cU:bd<0)(hp:p<=s.size):zsr s p bd=((zD s p).1==4)/\zj2 s p bd=z6 s p 4/\zoz s p bd=bd:=by
 have K:=zeo s p hp;have e:zsr s p bd=((zD s p).1==4):=by
  unfold zsr;rw[Bool.eq_iff_iff];simp[cU,K.k4]
 by_cases h:(zD s p).1=4
 ·have hk:=K.k4.1 h;have t:=zf7 cU (p:=p) (s:=s) (by rw[hk];decide) (by rw[hk];decide);have hb:((zD s p).1==4)=true:=by simpa using h
  refine⟨e,?_,?_⟩
  ·unfold zj2 z6;rw[e,if_pos hb,if_pos hb,t.2,K.lL]
  ·unfold zoz;rw[e,if_pos hb,t.1]
 ·have hb:¬ ((zD s p).1==4)=true:=by simpa using h
  refine⟨e,?_,?_⟩
  ·unfold zj2 z6;rw[e,if_neg hb,if_neg hb]
  ·unfold zoz;rw[e,if_neg hb]
variable {p:Nat} {s:B8}
theorem zty {k:Int}(h:p<=s.size):z6 s p k<=s.size:=by
 unfold z6;split
 ·exact (xD s p h).2
 ·exact h
theorem yeg (s:B8)(num p:Nat)(bd:Int)(cU:bd<0)(hp:p<=s.size):
  match yK s (z6 s p 4) with
  | .no q=>(xO s p bd).2=((zD s q).2.1:Int)
  | .yes q pd ts pl=>xO s p bd=(q,bd)/\cY s p pd ts=bl (ze9 s p bd)/\zjq num (ze9 s p bd) (dO s num p pd ts pl)/\q<=s.size:=by
 obtain⟨f1,f2,f3⟩:=z3h s p bd cU hp;have A:=zuy s (z6 s p 4) bd cU (zty hp);have K:=zeo s p hp;have K2:=zeo s (z6 s p 4) (zty hp);unfold xO ze9;rw[f1,f2,f3]
 cases hr:yK s (z6 s p 4) with
 | no q=>rw[hr] at A;exact A
 | yes q pd ts pl=>
  rw[hr] at A;obtain⟨a1,a2,a3,a4,a5⟩:=A;refine⟨a1,by simp[cY,bl,a2,a3],⟨rfl,rfl,a2,a3,λ _=>K.at_,K2.at_,a4⟩,a5⟩
theorem zw4 (s:B8)(f p:Nat)(bd:Int)(l:List yX):ziz s (f+1) p bd l =
  if isS s (xO s p (xB s p bd l.length)).1 (xO s p (xB s p bd l.length)).2 { data:=#[44] } then
   ziz s f (zb1 s (xO s p (xB s p bd l.length)).1 (xO s p (xB s p bd l.length)).2 { data:=#[44] }) (zb0 s (xO s p (xB s p bd l.length)).1 (xO s p (xB s p bd l.length)).2 { data:=#[44] }) (l++[ze9 s p (xB s p bd l.length)])
  else (l++[ze9 s p (xB s p bd l.length)],zb1 s (xO s p (xB s p bd l.length)).1 (xO s p (xB s p bd l.length)).2 { data:=#[44] },zb0 s (xO s p (xB s p bd l.length)).1 (xO s p (xB s p bd l.length)).2 { data:=#[44] }):=by rw[ziz]
theorem zw5 (s:B8)(f p:Nat)(bd:Int)(l:List yX)(a:Nat)(h:(xO s p (xB s p bd l.length)).2=(a:Int)):(ziz s (f+1) p bd l).2.2=(a:Int):=by
 have h0:(0:Int)<=(a:Int):=by omega
 rw[zw4,h,ze6 h0,(zdw h0).1,(zdw h0).2];rfl
theorem zkn {bd:Int}{a:Nat}{wd:B8}(h:bd=(a:Int)):jV s p (jH s p bd wd)=(a:Int):=by
 have h0:(0:Int)<=(a:Int):=by omega
 subst h;rw[zx1 h0];exact (zf8 h0).1
theorem ybi (s:B8)(num:Nat)(bd:Int)(cU:bd<0):∀ (f p:Nat) (l:List yX) (fE ms:List yS),l.length+f=3->p<=s.size->cK num l ms ->
  ((xK s num f p (l.map bl) (fE++ms)).1=true->∃ q ms',(ziz s (f+1) p bd l).2=(q,bd)/\(zD s q).1=8/\q<=s.size/\(xK s num f p (l.map bl) (fE++ms)).2.1=(zD s q).2.2/\(xK s num f p (l.map bl) (fE++ms)).2.2.1=(ziz s (f+1) p bd l).1.map bl/\(xK s num f p (l.map bl) (fE++ms)).2.2.2=fE++ms'/\cK num (ziz s (f+1) p bd l).1 ms') /\
  ((xK s num f p (l.map bl) (fE++ms)).1=false->jV s (ziz s (f+1) p bd l).2.1 (jH s (ziz s (f+1) p bd l).2.1 (ziz s (f+1) p bd l).2.2 { data:=#[46] })=((zD s (xK s num f p (l.map bl) (fE++ms)).2.1).2.1:Int)):=by
 intro f
 induction f with
 | zero=>
  intro p l fE ms hl hp _;have K:=zeo s p hp;refine⟨λ h=>by simp[xK] at h,λ _=>?_⟩;have e:xB s p bd l.length=((tok s p).at_:Int):=by
   unfold xB;have:(l.length==3)=true:=by simp;omega
   rw[if_pos this,zhs cU]
  have h0:(0:Int)<=((tok s p).at_:Int):=by omega
  have hb:=zw5 s 0 p bd l (tok s p).at_ (by rw[e];exact yb4 h0);simp only[xK];rw[zkn hb,K.at_]
 | succ f ih=>
  intro p l fE ms hl hp hM;have e:xB s p bd l.length=bd:=by
   unfold xB;have:¬ (l.length==3)=true:=by simp;omega
   rw[if_neg this]
  have L:=yeg s num p bd cU hp;rw[xK]
  cases hr:yK s (z6 s p 4) with
  | no q=>
   rw[hr] at L;have hb:=zw5 s (f+1) p bd l (zD s q).2.1 (by rw[e];exact L);refine⟨λ h=>by simp at h,λ _=>?_⟩;rw[zkn hb]
  | yes q pd ts pl=>
   rw[hr] at L;obtain⟨l1,l2,l3,l4⟩:=L;have K:=zeo s q l4;have nD:l.map bl++[cY s p pd ts]=(l++[ze9 s p bd]).map bl:=(by simp[l2]);have bz:fE++ms++[dO s num p pd ts pl]=fE++(ms++[dO s num p pd ts pl]):=(by simp);have E1:=hM.snoc l3;rw[zw4,e,l1];simp only;rw[nD,bz]
   by_cases hc:(tok s q).kind=115/\(tok s q).text.toList=[44]
   ·have gD:(tok s q).kind=115/\(tok s q).text.toList=({ data:=#[44] }:B8).toList:=⟨hc.1,by rw[hc.2,ByteArray.toList_eq]⟩;rw[if_pos (K.k7.2 hc),K.lL,(zg5 cU).2 gD,(ze4 cU gD).1,(ze4 cU gD).2,if_pos rfl];exact ih _ _ _ _ (by simp;omega) (by rw[<-K.lL];exact (xD s q l4).2) E1
   ·have gD:¬ ((tok s q).kind=115/\(tok s q).text.toList=({ data:=#[44] }:B8).toList):=λ h=>hc ⟨h.1,by rw[h.2,ByteArray.toList_eq]⟩
    rw[if_neg (λ h=>hc (K.k7.1 h)),zow cU gD,(ze5 cU gD).1,(ze5 cU gD).2,if_neg (by decide)]
    by_cases hs:(tok s q).kind=115/\(tok s q).text.toList=[46]
    ·have h8:=K.k8.2 hs;have oq:z6 s q 8=(zD s q).2.2:=(by unfold z6;rw[if_pos (by simpa using h8)]);refine⟨λ _=>⟨q,ms++[dO s num p pd ts pl],rfl,h8,l4,oq,rfl,rfl,E1⟩,λ h=>by simp[h8] at h⟩
    ·have h8:¬ (zD s q).1=8:=λ h=>hs (K.k8.1 h)
     have oq:z6 s q 8=q:=(by unfold z6;rw[if_neg (by simpa using h8)]);have im:¬ ((tok s q).kind=115/\(tok s q).text.toList=({ data:=#[46] }:B8).toList):=λ h=>hs ⟨h.1,by rw[h.2,ByteArray.toList_eq]⟩
     refine⟨λ h=>by simp[h8] at h,λ _=>?_⟩;simp only[oq];rw[zvq cU im,K.at_]
theorem ycs (s:B8)(num p:Nat)(bd:Int)(cU:bd<0)(hp:p<=s.size)(ms:List yS):
  ((yQ s num p ms).1=true->∃ ms',zml s p bd=(yQ s num p ms).2.1/\zct s p bd=bd/\(yQ s num p ms).2.1<=s.size/\(yQ s num p ms).2.2.1=yU (zie s p bd)/\(yQ s num p ms).2.2.2=ms++ms'/\cK num (zie s p bd).atoms ms') /\
  ((yQ s num p ms).1=false->zct s p bd=((zD s (yQ s num p ms).2.1).2.1:Int)):=by
 have A:=zuy s p bd cU hp;have K:=zeo s p hp;unfold yQ
 cases hr:yK s p with
 | no q=>
  rw[hr] at A;have h0:(0:Int)<=((zD s q).2.1:Int):=by omega
  refine⟨λ h=>by simp at h,λ _=>?_⟩;unfold zct zbi;rw[show (yD s p bd).2.2=((zD s q).2.1:Int) from A,ze6 h0];simp only[Bool.false_eq_true,if_false];exact zkn (zdw h0).2
 | yes q pd ts pl=>
  rw[hr] at A;obtain⟨a1,a2,a3,a4,a5⟩:=A;have pC:(yD s p bd).2.1=q:=by rw[a1]
  have pD:(yD s p bd).2.2=bd:=by rw[a1]
  have K2:=zeo s q a5;have hrel:zjq num (Lh s p bd) (dm s num p pd ts pl):=⟨rfl,rfl,a2,a3,λ h=>by simp[Lh] at h,K.at_,a4⟩
  by_cases hw:(tok s q).kind=115/\(tok s q).text.toList=[58,45]
  ·have uY:(tok s q).kind=115/\(tok s q).text.toList=({ data:=#[58,45] }:B8).toList:=⟨hw.1,by rw[hw.2,ByteArray.toList_eq]⟩;have h9:=K2.k9.2 hw;have h8:¬ (zD s q).1=8:=(by rw[h9];decide);have eB:zbi s p bd=ziz s 4 (tok s q).to bd []:=by
    unfold zbi;rw[pC,pD,(zg5 cU).2 uY,(ze4 cU uY).1,(ze4 cU uY).2];rfl
   have zj:(tok s q).to<=s.size:=(by rw[<-K2.lL];exact (xD s q a5).2);have B:=ybi s num bd cU 3 (tok s q).to [] (ms++[dm s num p pd ts pl]) [] rfl zj (cK.nil num);rw[List.map_nil,List.append_nil] at B;simp only[if_neg h8,if_pos h9,K2.lL];refine⟨λ h=>?_,λ h=>?_⟩
   ·obtain⟨r,ms',b1,b2,b3,b4,b5,b6,b7⟩:=B.1 h;have K3:=zeo s r b3;have hs:=K3.k8.1 b2;have im:(tok s r).kind=115/\(tok s r).text.toList=({ data:=#[46] }:B8).toList:=⟨hs.1,by rw[hs.2,ByteArray.toList_eq]⟩;have e1:(zbi s p bd).2.1=r:=(by rw[eB,b1]);have e2:(zbi s p bd).2.2=bd:=(by rw[eB,b1]);refine⟨dm s num p pd ts pl::ms',?_,?_,?_,?_,?_,?_⟩
    ·unfold zml;rw[e1,e2,(zfw cU im).1,b4,K3.lL]
    ·unfold zct;rw[e1,e2,(zfw cU im).2]
    ·rw[b4];exact (xD s r b3).2
    ·rw[b5,<-eB];simp[yU,zie,Lh,a2,a3]
    ·rw[b6];simp
    ·rw[<-eB] at b7;exact cK.cons b7 hrel
   ·unfold zct;rw[eB];exact B.2 h
  ·have uY:¬ ((tok s q).kind=115/\(tok s q).text.toList=({ data:=#[58,45] }:B8).toList):=λ h=>hw ⟨h.1,by rw[h.2,ByteArray.toList_eq]⟩
   have h9:¬ (zD s q).1=9:=λ h=>hw (K2.k9.1 h)
   have eB:zbi s p bd=([],q,bd):=by
    unfold zbi;rw[pC,pD,zow cU uY,(ze5 cU uY).1,(ze5 cU uY).2];rfl
   by_cases hs:(tok s q).kind=115/\(tok s q).text.toList=[46]
   ·have im:(tok s q).kind=115/\(tok s q).text.toList=({ data:=#[46] }:B8).toList:=⟨hs.1,by rw[hs.2,ByteArray.toList_eq]⟩;have h8:=K2.k8.2 hs;simp only[if_pos h8];refine⟨λ _=>⟨[dm s num p pd ts pl],?_,?_,(xD s q a5).2,?_,rfl,?_⟩,λ h=>by simp at h⟩
    ·unfold zml;rw[eB];simp only;rw[(zfw cU im).1,K2.lL]
    ·unfold zct;rw[eB];simp only;rw[(zfw cU im).2]
    ·simp[yU,zie,Lh,eB,a2,a3]
    ·have:(zie s p bd).atoms=[Lh s p bd]:=by simp[zie,yT.atoms,eB]
     rw[this];exact cK.cons (cK.nil num) hrel
   ·have im:¬ ((tok s q).kind=115/\(tok s q).text.toList=({ data:=#[46] }:B8).toList):=λ h=>hs ⟨h.1,by rw[h.2,ByteArray.toList_eq]⟩
    have h8:¬ (zD s q).1=8:=λ h=>hs (K2.k8.1 h)
    simp only[if_neg h8,if_neg h9];refine⟨λ h=>by simp at h,λ _=>?_⟩;unfold zct;rw[eB];simp only;rw[zvq cU im,K2.at_]
inductive jT:Nat->List yT->List yS->Prop where
 | nil (n:Nat):jT n [] []
 | cons {n:Nat} {R:yT} {rs:List yT} {ms ms':List yS} (h:cK n R.atoms ms) (t:jT (n+1) rs ms'):jT n (R::rs) (ms++ms')
theorem jT.snoc {n:Nat}{rs:List yT}(h:jT n rs ms):∀ {R:yT} {ms':List yS},cK (n+rs.length) R.atoms ms'->jT n (rs++[R]) (ms++ms'):=by
 induction h with
 | nil n=>
  intro R ms' hm;have:=jT.cons (rs:=[]) (ms':=[]) hm (jT.nil _);simpa using this
 | cons h t ih=>
  intro R ms' hm;rw[List.append_assoc,List.cons_append];refine jT.cons h (ih ?_);simpa[Nat.add_comm,Nat.add_left_comm,Nat.add_assoc] using hm
theorem z8x (s:B8)(bd:Int)(cU:bd<0):∀ (f p:Nat) (rs:List yT) (ms:List yS),rs.length+f=30->p<=s.size->jT 0 rs ms ->
  ((xJ s (f+1) p (rs.map yU) ms).1=true->(zdj s (f+1) p bd rs).2.2=bd/\(xJ s (f+1) p (rs.map yU) ms).2.2.1=(zdj s (f+1) p bd rs).1.map yU/\jT 0 (zdj s (f+1) p bd rs).1 (xJ s (f+1) p (rs.map yU) ms).2.2.2) /\
  ((xJ s (f+1) p (rs.map yU) ms).1=false->(zdj s (f+1) p bd rs).2.2=((zD s (xJ s (f+1) p (rs.map yU) ms).2.1).2.1:Int)):=by
 intro f
 induction f with
 | zero=>
  intro p rs ms hl hp hT;have K:=zeo s p hp;rw[xJ,zdj]
  by_cases h0:(zD s p).1=0
  ·have hg:zel s p bd=false:=(by unfold zel;simp[K.k0.1 h0]);rw[if_pos h0,hg,if_neg (by decide)];exact⟨λ _=>⟨rfl,rfl,hT⟩,λ h=>by simp at h⟩
  ·have hg:zel s p bd=true:=(by unfold zel;simp[cU];exact λ h=>h0 (K.k0.2 h));rw[if_neg h0,if_pos (by simp;omega),hg,if_pos rfl];refine⟨λ h=>by simp at h,λ _=>?_⟩;have e:zeb s p bd rs.length=((tok s p).at_:Int):=by
    unfold zeb;rw[if_pos (by simp;omega),zhs cU]
   have oa:(0:Int)<=((tok s p).at_:Int):=(by omega);simp only[zdj,e];unfold zct;have hb:(zbi s p ((tok s p).at_:Int)).2.2=((tok s p).at_:Int):=by
    unfold zbi;rw[zw2 oa,ze6 oa,(zdw oa).1,(zdw oa).2];rfl
   rw[zkn hb,K.at_]
 | succ f ih=>
  intro p rs ms hl hp hT;have K:=zeo s p hp;rw[xJ,zdj]
  by_cases h0:(zD s p).1=0
  ·have hg:zel s p bd=false:=(by unfold zel;simp[K.k0.1 h0]);rw[if_pos h0,hg,if_neg (by decide)];exact⟨λ _=>⟨rfl,rfl,hT⟩,λ h=>by simp at h⟩
  ·have hg:zel s p bd=true:=(by unfold zel;simp[cU];exact λ h=>h0 (K.k0.2 h));have e:zeb s p bd rs.length=bd:=(by unfold zeb;rw[if_neg (by simp;omega)]);rw[if_neg h0,if_neg (by simp;omega),hg,if_pos rfl,e,List.length_map];have R:=ycs s rs.length p bd cU hp ms
   cases hr:(yQ s rs.length p ms).1 with
   | true=>
    obtain⟨ms',r1,r2,r3,r4,r5,r6⟩:=R.1 hr;rw[if_pos rfl,r1,r2,r4,r5];have e2:rs.map yU++[yU (zie s p bd)]=(rs++[zie s p bd]).map yU:=(by simp);rw[e2];exact ih _ _ _ (by simp;omega) r3 (hT.snoc (by simpa using r6))
   | false=>
    have hb:=R.2 hr;rw[if_neg (by decide)];refine⟨λ h=>by simp at h,λ _=>?_⟩;have oa:zel s (zml s p bd) (zct s p bd)=false:=(by unfold zel;rw[hb];simp);rw[z48 _ _ _ _ _ oa];exact hb
def zJ (s:B8):Bool × Nat × List yH × List yS:=xJ s 31 0 [] []
theorem zh6 (s:B8):
  ((zJ s).1=true->(vD s).2.2=-1/\(zJ s).2.2.1=(vD s).1.map yU/\jT 0 (vD s).1 (zJ s).2.2.2) /\
  ((zJ s).1=false->(vD s).2.2=((zD s (zJ s).2.1).2.1:Int)):=
 z8x s (-1) (by decide) 30 0 [] [] rfl (Nat.zero_le _) (jT.nil 0)
end
section
def zP (s:B8):List UInt8:=s.data.toList
theorem zc2 (s:B8):(zP s).length=s.size:=by unfold zP;rw[Array.length_toList];rfl
variable {i:Nat} {s:B8}
theorem zy0 (h:i<s.size):(zP s)[i]?=some s[i]:=by
 unfold zP;rw[Array.getElem?_toList];have:s.data[i]?=some s.data[i]:=Array.getElem?_eq_getElem h;exact this
variable {r:List UInt8}
theorem zp6 {c:UInt8}(h:(zP s).drop i=c::r):∃ hi:i<s.size,s[i]=c/\(zP s).drop (i+1)=r:=by
 have hi:i<s.size:=by
  rw[<-zc2];apply Nat.lt_of_not_le;intro hl;rw[List.drop_eq_nil_of_le hl] at h;cases h
 have h1:=zy0 hi;have h2:((zP s).drop i)[0]?=some c:=by rw[h];rfl
 rw[List.getElem?_drop,Nat.add_zero,h1] at h2;refine⟨hi,Option.some.inj h2,?_⟩;have:(zP s).drop (i+1)=((zP s).drop i).drop 1:=by rw[List.drop_drop]
 rw[this,h];rfl
theorem zfo (q:Int->Bool){s:B8}:∀ (w:List UInt8) (i:Nat) (r:List UInt8),(zP s).drop i=w++r->(∀ c∈w,q c.toNat=true)->(∀ c r',r=c::r'->q c.toNat=false)->skip q s i=i+w.length
 | [],i,r,h,_,hr=>by
  cases r with
  | nil=>
   have:¬ i<s.size:=λ hi=>by
    rw[<-zc2] at hi;have:=List.length_drop (i:=i) (l:=zP s);rw[h] at this;simp at this;omega
   rw[zcn _ _ _ this];rfl
  | cons c r'=>
   obtain⟨hi,hc,_⟩:=zp6 (c:=c) (r:=r') h;rw[zbc q s i hi (by rw[hc];exact hr c r' rfl)];rfl
 | c::w,i,r,h,hw,hr=>by
  obtain⟨hi,hc,hd⟩:=zp6 (c:=c) (r:=w++r) h;rw[zbb q s i hi (by rw[hc];exact hw c List.mem_cons_self),zfo q w (i+1) r hd (λ x hx=>hw x (List.mem_cons_of_mem _ hx)) hr,List.length_cons];omega
variable {w:List UInt8}
theorem ze2 (h:(zP s).drop i=w++r):s.extract i (i+w.length)=⟨w.toArray⟩:=by
 apply ByteArray.ext;apply Array.toList_inj.1
 show (s.extract i (i+w.length)).data.toList=w
 rw[ByteArray.data_extract,Array.toList_extract,List.extract_eq_take_drop]
 show ((zP s).drop i).take (i+w.length-i)=w
 rw[h,show i+w.length-i=w.length by omega,List.take_left' rfl]
structure zuw (s:B8)(p:Nat)(k:Int)(w:List UInt8)(q:Nat):Prop where
 kind:(zD s p).1=k
 word:yP s p=⟨w.toArray⟩
 stop:(zD s p).2.2=q
inductive vT:Int->List UInt8->Prop
 | name {w:List UInt8}:w≠[]->w.length<=8->(∀ c∈w,jD c.toNat=true)->w≠[110,111,116]->vT 2 w
 | var {w:List UInt8}:w≠[]->w.length<=8->(∀ c∈w,yZ c.toNat=true)->vT 3 w
 | rA:vT 4 [110,111,116]
 | open_:vT 5 [40]
 | shut:vT 6 [41]
 | comma:vT 7 [44]
 | dot:vT 8 [46]
 | mR:vT 9 [58,45]
def yfd (k:Int)(r:List UInt8):Prop:=∀ c r',r=c::r'->((k=2\/k=4)->jD c.toNat=false)/\(k=3->yZ c.toNat=false)
theorem z3q {a:Nat}(k:Int)(n p:Nat)(hp:skip yG s p=a)(h:qF (s.extract a s.size)=(k,n)):(zD s p).1=k/\(zD s p).2.1=a/\(zD s p).2.2=a+n:=by
 unfold zD;rw[hp,h];exact⟨rfl,rfl,rfl⟩
theorem zxg (s:B8)(a:Nat):zP (s.extract a s.size)=(zP s).drop a:=by
 unfold zP;rw[ByteArray.data_extract,Array.toList_extract,List.extract_eq_take_drop,List.take_of_length_le];rw[List.length_drop,Array.length_toList];exact Nat.le_refl _
theorem zcd (w:List UInt8):(⟨w.toArray⟩:B8).toList=w:=by rw[ByteArray.toList_eq]
variable {k:Int}
theorem z7z {r:B8}{rest:List UInt8}(hk:vT k w)(h:zP r=w++rest)(he:yfd k rest):qF r=(k,w.length):=by
 have h0:(zP r).drop 0=w++rest:=h;have hsz:r.size=w.length+rest.length:=by rw[<-zc2,h,List.length_append]
 have lV:r.extract 0 w.length=⟨w.toArray⟩:=by have:=ze2 h0;rwa [Nat.zero_add] at this
 have first:∀ c w',w=c::w'->∃ hi:0<r.size,r[0]=c:=λ c w' e=>by
  rw[e] at h0;obtain⟨hi,hc,_⟩:=zp6 h0;exact⟨hi,hc⟩
 have aX:(∀ c∈w,jD c.toNat=true)->(k=2\/k=4)->skip jD r 0=w.length:=λ hw hk=>by
  have:=zfo jD w 0 rest h0 hw (λ c r' e=>(he c r' e).1 hk)
  rwa [Nat.zero_add] at this
 cases hk with
 | name bG hl hw hn=>
  obtain⟨c,w',e⟩:=List.exists_cons_of_ne_nil bG;obtain⟨hi,hc⟩:=first c w' e;have gD:jD (r[0].toNat:Int)=true:=by rw[hc];exact hw c (by rw[e];exact List.mem_cons_self)
  unfold qF;rw[dif_pos hi,if_pos gD];unfold zh1;rw[aX hw (.inl rfl),if_neg (by omega),lV,zcd,if_neg hn]
 | var bG hl hw=>
  obtain⟨c,w',e⟩:=List.exists_cons_of_ne_nil bG;obtain⟨hi,hc⟩:=first c w' e;have Jc:=hw c (by rw[e];exact List.mem_cons_self);have mC:yZ (r[0].toNat:Int)=true:=by rw[hc];exact Jc
  have nA:¬ jD (r[0].toNat:Int)=true:=by
   unfold yZ at mC;unfold jD;simp at mC ⊢;omega
  have nJ:skip yZ r 0=w.length:=by
   have:=zfo yZ w 0 rest h0 hw (λ c r' e=>(he c r' e).2 rfl)
   rwa [Nat.zero_add] at this
  unfold qF;rw[dif_pos hi,if_neg nA,if_pos mC];unfold z6b;rw[nJ,if_neg (by omega)]
 | rA=>
  obtain⟨hi,hc⟩:=first 110 [111,116] rfl;have gD:jD (r[0].toNat:Int)=true:=by rw[hc];decide
  unfold qF;rw[dif_pos hi,if_pos gD];unfold zh1;rw[aX (by decide) (.inr rfl),if_neg (by decide),lV,zcd,if_pos rfl]
 | open_=>
  obtain⟨hi,hc⟩:=first 40 [] rfl;have h1:(r.extract 0 1).toList=[40]:=by have:r.extract 0 1=_:=lV;rw[this,zcd]
  unfold qF;rw[dif_pos hi,if_neg (by rw[hc];decide),if_neg (by rw[hc];decide)];unfold zdk;rw[if_pos ⟨by omega,h1⟩];rfl
 | shut=>
  obtain⟨hi,hc⟩:=first 41 [] rfl;have h1:(r.extract 0 1).toList=[41]:=by have:r.extract 0 1=_:=lV;rw[this,zcd]
  unfold qF;rw[dif_pos hi,if_neg (by rw[hc];decide),if_neg (by rw[hc];decide)];unfold zdk;rw[h1,if_neg (λ x=>by cases x.2),if_pos ⟨by omega,rfl⟩];rfl
 | comma=>
  obtain⟨hi,hc⟩:=first 44 [] rfl;have h1:(r.extract 0 1).toList=[44]:=by have:r.extract 0 1=_:=lV;rw[this,zcd]
  unfold qF;rw[dif_pos hi,if_neg (by rw[hc];decide),if_neg (by rw[hc];decide)];unfold zdk;rw[h1,if_neg (λ x=>by cases x.2),if_neg (λ x=>by cases x.2),if_pos ⟨by omega,rfl⟩];rfl
 | dot=>
  obtain⟨hi,hc⟩:=first 46 [] rfl;have h1:(r.extract 0 1).toList=[46]:=by have:r.extract 0 1=_:=lV;rw[this,zcd]
  unfold qF;rw[dif_pos hi,if_neg (by rw[hc];decide),if_neg (by rw[hc];decide)];unfold zdk;rw[h1,if_neg (λ x=>by cases x.2),if_neg (λ x=>by cases x.2),if_neg (λ x=>by cases x.2),if_pos ⟨by omega,rfl⟩];rfl
 | mR=>
  obtain⟨hi,hc⟩:=first 58 [45] rfl;have h2:(r.extract 0 2).toList=[58,45]:=by have:r.extract 0 2=_:=lV;rw[this,zcd]
  have h1:(r.extract 0 1).toList=[58]:=by
   have:=ze2 (s:=r) (i:=0) (w:=[58]) (r:=45::rest) h0;rw[show r.extract 0 1=_ from this,zcd]
  have h3:2<=r.size:=by rw[hsz];simp
  unfold qF;rw[dif_pos hi,if_neg (by rw[hc];decide),if_neg (by rw[hc];decide)];unfold zdk;rw[h1,h2,if_neg (λ x=>by cases x.2),if_neg (λ x=>by cases x.2),if_neg (λ x=>by cases x.2),if_neg (λ x=>by cases x.2),if_pos ⟨h3,rfl⟩];rfl
variable {b:List UInt8} {p:Nat}
theorem yeu (h:(zP s).drop p=b++(w++r))(hb:∀ c∈b,yG c.toNat=true)(hk:vT k w)(he:yfd k r):zuw s p k w (p+b.length+w.length)/\(zP s).drop (p+b.length+w.length)=r:=by
 have dJ:∀ c r',w++r=c::r'->yG c.toNat=false:=λ c r' e=>by
  have low:∀ x:UInt8,jD x.toNat=true->yG x.toNat=false:=λ x hx=>by
   unfold jD at hx;unfold yG;simp at hx ⊢;omega
  have high:∀ x:UInt8,yZ x.toNat=true->yG x.toNat=false:=λ x hx=>by
   unfold yZ at hx;unfold yG;simp at hx ⊢;omega
  cases hk with
  | name bG _ hw _=>
   obtain⟨d,w',e'⟩:=List.exists_cons_of_ne_nil bG;rw[e'] at e hw;injection e with e1
   rw[<-e1];exact low _ (hw d List.mem_cons_self)
  | var bG _ hw=>
   obtain⟨d,w',e'⟩:=List.exists_cons_of_ne_nil bG;rw[e'] at e hw;injection e with e1
   rw[<-e1];exact high _ (hw d List.mem_cons_self)
  | rA=>injection e with e1;rw[<-e1];decide
  | open_=>injection e with e1;rw[<-e1];decide
  | shut=>injection e with e1;rw[<-e1];decide
  | comma=>injection e with e1;rw[<-e1];decide
  | dot=>injection e with e1;rw[<-e1];decide
  | mR=>injection e with e1;rw[<-e1];decide
 have nJ:=zfo yG b p (w++r) h hb dJ;have hd:(zP s).drop (p+b.length)=w++r:=by rw[<-List.drop_drop,h,List.drop_left' rfl]
 have hm:=z7z (r:=s.extract (p+b.length) s.size) hk (by rw[zxg];exact hd) he;obtain⟨h1,h2,h3⟩:=z3q k w.length p nJ hm;refine⟨⟨h1,?_,h3⟩,by rw[<-List.drop_drop,hd,List.drop_left' rfl]⟩;unfold yP;rw[h2,h3];exact ze2 hd
theorem zpt (h:(zP s).drop p=b)(hb:∀ c∈b,yG c.toNat=true):(zD s p).1=0:=by
 have nJ:=zfo yG b p [] (by rw[List.append_nil];exact h) hb (λ c r' e=>by cases e);have hz:¬ 0<(s.extract (p+b.length) s.size).size:=by
  rw[<-zc2,zxg,<-List.drop_drop,h,List.drop_length];exact Nat.lt_irrefl 0
 have hm:qF (s.extract (p+b.length) s.size)=(0,0):=by unfold qF;rw[dif_neg hz]
 exact (z3q 0 0 p nJ hm).1
end
section
abbrev TkL:=List (Int × List UInt8)
inductive aO (s:B8):Nat->TkL->Nat->Prop
 | nil (p:Nat):aO s p [] p
 | cons {p q r:Nat} {k:Int} {w:List UInt8} {l:TkL}:zuw s p k w q->aO s q l r->aO s p ((k,w)::l) r
theorem aO.split {s:B8}{b:TkL}{r:Nat}:∀ {a:TkL} {p:Nat},aO s p (a++b) r->∃ q,aO s p a q/\aO s q b r
 | [],p,h=>⟨p,.nil p,h⟩
 | x::a,p,h=>by
  cases h with
  | cons h1 h2=>
   obtain⟨q,h3,h4⟩:=aO.split h2;exact⟨q,.cons h1 h3,h4⟩
variable {w:List UInt8} {k:Int} {p r:Nat} {s:B8}
theorem aO.head {l:TkL}(h:aO s p ((k,w)::l) r):∃ q,zuw s p k w q/\aO s q l r:=by
 cases h with
 | cons h1 h2=>exact⟨_,h1,h2⟩
theorem aO.last (h:aO s p [(k,w)] r):zuw s p k w r:=by
 obtain⟨q,h1,h2⟩:=h.head
 cases h2
 exact h1
theorem zdt (n:B8):(⟨(zP n).toArray⟩:B8)=n:=by unfold zP;rw[Array.toArray_toList]
def za0 (t:Bool × B8):Int × List UInt8:=(if t.1 then 3 else 2,zP t.2)
def zhf:List (Bool × B8)->TkL
 | []=>[]
 | [t]=>[za0 t,(6,[41])]
 | t::u::r=>za0 t::(7,[44])::zhf (u::r)
def zk4 (pd:B8)(ts:List (Bool × B8)):TkL:=match ts with
 | []=>[(2,zP pd)]
 | t::r=>(2,zP pd)::(5,[40])::zhf (t::r)
def zss (l:yR):TkL:=(if l.neg then [(4,[110,111,116])] else [])++zk4 l.pd l.ts
def zjs:List yR->TkL
 | []=>[]
 | [l]=>zss l++[(8,[46])]
 | l::m::r=>zss l++(7,[44])::zjs (m::r)
def zj6 (R:yH):TkL:=zk4 R.pd R.ts++match R.body with
 | []=>[(8,[46])]
 | l::r=>(9,[58,45])::zjs (l::r)
variable {q:Nat}
theorem zyi {t:Bool × B8}(h:zuw s p (za0 t).1 (za0 t).2 q):((zD s p).1=2\/(zD s p).1=3)/\(decide ((zD s p).1=3),yP s p)=t:=by
 obtain⟨b,n⟩:=t;have hk:=h.kind;have hw:=h.word;unfold za0 at hk hw;simp only at hk hw;rw[zdt] at hw
 cases b with
 | true=>simp only[if_true] at hk;exact⟨.inr hk,by rw[hk,hw];rfl⟩
 | false=>simp only[Bool.false_eq_true,if_false] at hk;exact⟨.inl hk,by rw[hk,hw];rfl⟩
theorem zmg {s:B8}:∀ (ts:List (Bool × B8)) (f p q:Nat) (l:List (Bool × B8)) (pl:Nat->Nat),ts≠[]->ts.length<=f->aO s p (zhf ts) q->∃ DL,zN s f p l pl=(true,q,l++ts,DL)
 | [],_,_,_,_,_,h,_,_=>absurd rfl h
 | [t],f,p,q,l,pl,_,hf,h=>by
  obtain⟨f,rfl⟩:∃ g,f=g+1:=⟨f-1,by simp at hf;omega⟩;obtain⟨p1,h1,h2⟩:=aO.head (l:=[(6,[41])]) (k:=(za0 t).1) (w:=(za0 t).2) h;have h3:=h2.last;obtain⟨e1,e2⟩:=zyi h1;have e3:(zD s p1).1=6:=h3.kind;refine⟨dL pl l.length (zD s p).2.1,?_⟩;rw[zN,if_pos e1,h1.stop,e2,e3,if_neg (by decide)];unfold z6;rw[e3,h3.stop];rfl
 | t::u::r,f,p,q,l,pl,_,hf,h=>by
  obtain⟨f,rfl⟩:∃ g,f=g+1:=⟨f-1,by simp at hf;omega⟩;obtain⟨p1,h1,h2⟩:=aO.head (l:=(7,[44])::zhf (u::r)) (k:=(za0 t).1) (w:=(za0 t).2) h;obtain⟨p2,h3,h4⟩:=h2.head;obtain⟨e1,e2⟩:=zyi h1;obtain⟨DL,ih⟩:=zmg (u::r) f p2 q (l++[t]) (dL pl l.length (zD s p).2.1) (by simp) (by simp at hf ⊢;omega) h4;refine⟨DL,?_⟩;rw[zN,if_pos e1,h1.stop,e2,h3.kind,if_pos rfl,h3.stop,ih,List.append_assoc];rfl
theorem zde {pd:B8}{ts:List (Bool × B8)}(h4:ts.length<=4)(h:aO s p (zk4 pd ts) q)(hq:ts=[]->(zD s q).1≠5):(zD s p).1=2/\∃ pl,yK s p=.yes q pd ts pl:=by
 cases ts with
 | nil=>
  have h1:zuw s p 2 (zP pd) q:=aO.last h;refine⟨h1.kind,λ _=>0,?_⟩;unfold yK;rw[if_pos h1.kind,h1.stop,if_neg (hq rfl),h1.word,zdt]
 | cons t r=>
  obtain⟨p1,h1,h2⟩:=aO.head (k:=2) (w:=zP pd) (l:=(5,[40])::zhf (t::r)) h;obtain⟨p2,h3,h5⟩:=h2.head;obtain⟨pl,h6⟩:=zmg (t::r) 4 p2 q [] (λ _=>0) (by simp) h4 h5;refine⟨h1.kind,pl,?_⟩;unfold yK;rw[if_pos h1.kind,h1.stop,h3.kind,if_pos rfl,h3.stop,h6,if_pos rfl,h1.word,zdt];rfl
def zgp (M:yS):Nat × Bool × B8 × List (Bool × B8):=(M.num,M.neg,M.pd,M.ts)
def zj1 (n:Nat)(l:yR):Nat × Bool × B8 × List (Bool × B8):=(n,l.neg,l.pd,l.ts)
def zg7:Nat->List yH->List (Nat × Bool × B8 × List (Bool × B8))
 | _,[]=>[]
 | n,R::r=>(n,false,R.pd,R.ts)::(R.body.map (zj1 n)++zg7 (n+1) r)
theorem ztg {l:yR}(h4:l.ts.length<=4)(h:aO s p (zss l) q)(hq:l.ts=[]->(zD s q).1≠5):∃ pl,yK s (z6 s p 4)=.yes q l.pd l.ts pl/\cY s p l.pd l.ts=l/\∀ num,zgp (dO s num p l.pd l.ts pl)=zj1 num l:=by
 obtain⟨neg,pd,ts⟩:=l;unfold zss at h
 cases neg with
 | false=>
  have h':aO s p (zk4 pd ts) q:=h;obtain⟨hk,pl,he⟩:=zde h4 h' hq;have hb:((zD s p).1==4)=false:=by rw[hk];rfl
  refine⟨pl,?_,?_,λ num=>?_⟩
  ·unfold z6;rw[hb];exact he
  ·unfold cY;rw[hb]
  ·unfold zgp dO zj1;simp only[hb]
 | true=>
  have h':aO s p ((4,[110,111,116])::zk4 pd ts) q:=h;obtain⟨p1,h1,h2⟩:=h'.head;obtain⟨hk,pl,he⟩:=zde h4 h2 hq;have hb:((zD s p).1==4)=true:=by rw[h1.kind];rfl
  refine⟨pl,?_,?_,λ num=>?_⟩
  ·unfold z6;rw[hb,h1.stop];exact he
  ·unfold cY;rw[hb]
  ·unfold zgp dO zj1;simp only[hb]
theorem zo7 {s:B8}{num:Nat}:∀ (b:List yR) (f p q:Nat) (l:List yR) (ms:List yS),b≠[]->b.length<=f->(∀ x∈b,x.ts.length<=4)->aO s p (zjs b) q->∃ ms',xK s num f p l ms=(true,q,l++b,ms++ms')/\ms'.map zgp=b.map (zj1 num)
 | [],_,_,_,_,_,h,_,_,_=>absurd rfl h
 | [x],f,p,q,l,ms,_,hf,h4,h=>by
  obtain⟨f,rfl⟩:∃ g,f=g+1:=⟨f-1,by simp at hf;omega⟩;obtain⟨p1,h1,h2⟩:=aO.split (a:=zss x) (b:=[(8,[46])]) h;have h3:=h2.last;have hk:(zD s p1).1=8:=h3.kind;obtain⟨pl,e1,e2,e3⟩:=ztg (h4 x List.mem_cons_self) h1 (λ _=>by rw[hk];decide);refine⟨[dO s num p x.pd x.ts pl],?_,by rw[List.map_cons,e3];rfl⟩;rw[xK,e1];simp only;rw[hk,if_neg (by decide),e2];unfold z6;rw[hk,h3.stop];rfl
 | x::y::r,f,p,q,l,ms,_,hf,h4,h=>by
  obtain⟨f,rfl⟩:∃ g,f=g+1:=⟨f-1,by simp at hf;omega⟩;obtain⟨p1,h1,h2⟩:=aO.split (a:=zss x) (b:=(7,[44])::zjs (y::r)) h;obtain⟨p2,h3,h5⟩:=h2.head;have hk:(zD s p1).1=7:=h3.kind;obtain⟨pl,e1,e2,e3⟩:=ztg (h4 x List.mem_cons_self) h1 (λ _=>by rw[hk];decide);obtain⟨ms',Ku,Kv⟩:=zo7 (num:=num) (y::r) f p2 q (l++[x]) (ms++[dO s num p x.pd x.ts pl]) (by simp) (by simp at hf ⊢;omega) (λ z hz=>h4 z (List.mem_cons_of_mem _ hz)) h5;refine⟨dO s num p x.pd x.ts pl::ms',?_,by rw[List.map_cons,e3,Kv];rfl⟩;rw[xK,e1];simp only;rw[hk,if_pos rfl,e2,h3.stop,Ku,List.append_assoc,List.append_assoc];rfl
structure z6u (R:yH):Prop where
 ts:R.ts.length<=4
 body:R.body.length<=3
 DJ:∀ x∈R.body,x.ts.length<=4
theorem z0e {num:Nat}{R:yH}(hR:z6u R)(ms:List yS)(h:aO s p (zj6 R) q):(zD s p).1=2/\∃ ms',yQ s num p ms=(true,q,R,ms++ms')/\ms'.map zgp=(num,false,R.pd,R.ts)::R.body.map (zj1 num):=by
 obtain⟨pd,ts,body⟩:=R;unfold zj6 at h;obtain⟨p1,h1,h2⟩:=aO.split h
 cases body with
 | nil=>
  have h3:zuw s p1 8 [46] q:=aO.last h2;obtain⟨hk,pl,he⟩:=zde hR.ts h1 (λ _=>by rw[h3.kind];decide);refine⟨hk,[dm s num p pd ts pl],?_,rfl⟩;unfold yQ;rw[he];simp only;rw[h3.kind,if_pos rfl,h3.stop]
 | cons x r=>
  obtain⟨p2,h3,h5⟩:=aO.head (k:=9) (w:=[58,45]) (l:=zjs (x::r)) h2;obtain⟨hk,pl,he⟩:=zde hR.ts h1 (λ _=>by rw[h3.kind];decide);obtain⟨ms',e1,e2⟩:=zo7 (num:=num) (x::r) 3 p2 q [] (ms++[dm s num p pd ts pl]) (by simp) hR.body hR.DJ h5;refine⟨hk,dm s num p pd ts pl::ms',?_,by rw[List.map_cons,e2];rfl⟩;unfold yQ;rw[he];simp only;rw[h3.kind,if_neg (by decide),if_pos rfl,h3.stop,e1,List.append_assoc];rfl
theorem zmf {s:B8}{q:Nat}(hq:(zD s q).1=0):∀ (rules:List yH) (rs:List yH) (ms:List yS) (p f:Nat),(∀ R∈rules,z6u R)->rs.length+rules.length<=30->rules.length<f->aO s p (rules.flatMap zj6) q->∃ ms',xJ s f p rs ms=(true,q,rs++rules,ms++ms')/\ms'.map zgp=zg7 rs.length rules
 | [],rs,ms,p,f,_,_,hf,h=>by
  obtain⟨f,rfl⟩:∃ g,f=g+1:=⟨f-1,by simp at hf;omega⟩
  cases h
  refine⟨[],?_,rfl⟩;rw[xJ,if_pos hq,List.append_nil,List.append_nil]
 | R::r,rs,ms,p,f,hR,hl,hf,h=>by
  obtain⟨f,rfl⟩:∃ g,f=g+1:=⟨f-1,by simp at hf;omega⟩;rw[List.flatMap_cons] at h;obtain⟨p1,h1,h2⟩:=aO.split h;obtain⟨hk,Gz,e1,e2⟩:=z0e (num:=rs.length) (hR R List.mem_cons_self) ms h1;simp only[List.length_cons] at hl hf;obtain⟨KE,e3,e4⟩:=zmf hq r (rs++[R]) (ms++Gz) p1 f (λ x hx=>hR x (List.mem_cons_of_mem _ hx)) (by rw[List.length_append,List.length_singleton];omega) (by omega) h2;refine⟨Gz++KE,?_,?_⟩
  ·rw[xJ,if_neg (by rw[hk];decide),if_neg (by omega),e1,if_pos rfl];simp only;rw[e3,List.append_assoc,List.append_assoc];rfl
  ·rw[List.map_append,e2,e4,List.length_append,List.length_singleton];rfl
theorem ztj {rules:List yH}(hq:(zD s q).1=0)(hR:∀ R∈rules,z6u R)(hl:rules.length<=30)(h:aO s 0 (rules.flatMap zj6) q):(zJ s).1=true/\(zJ s).2.2.1=rules/\(zJ s).2.2.2.map zgp=zg7 0 rules:=by
 obtain⟨ms,e1,e2⟩:=zmf hq rules [] [] 0 31 hR (by simpa using hl) (by omega) h;unfold zJ;rw[e1];exact⟨rfl,rfl,e2⟩
end
end Go.Proofs.YtldkpahaocjdpaaGreat
