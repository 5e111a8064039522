/-
  Plain: both readers read the same rules, and mention the same atoms; or they stop at the same place.
-/
import Derived.Test.YtldkpahaocjdpaaGreatR10
set_option maxHeartbeats 16000000
set_option maxRecDepth 1000000
namespace Go.Proofs.YtldkpahaocjdpaaGreat
section
structure zjr (num:Nat)(A:yY)(M:yT):Prop where
 num:M.num=num
 neg:M.neg=A.no
 pd:M.pd=A.pred
 ts:M.ts=A.aS.map a8
 start:A.no=true->M.start=A.lS
 place:M.place=A.at_
 pl:∀ i (h:i<A.aS.length),M.pl i=(A.aS[i]).at_
def bl (A:yY):yR:=⟨A.no,A.pred,A.aS.map a8⟩
def yV (R:yU):yH:=⟨R.head.pred,R.head.aS.map a8,R.body.map bl⟩
def cK (num:Nat)(l:List yY)(ms:List yT):Prop:=∃ q:List (yY × yT),q.map (·.1)=l/\q.map (·.2)=ms/\∀ x∈q,zjr num x.1 x.2
theorem cK.nil (num:Nat):cK num [] []:=⟨[],rfl,rfl,by simp⟩
variable {M:yT} {A:yY} {ms:List yT} {l:List yY}
theorem cK.snoc {num:Nat}(h:cK num l ms)(hm:zjr num A M):cK num (l++[A]) (ms++[M]):=by
 obtain⟨q,h1,h2,h3⟩:=h;refine⟨q++[(A,M)],by simp[h1],by simp[h2],λ x hx=>?_⟩;rcases List.mem_append.1 hx with hx | hx
 ·exact h3 x hx
 ·simp at hx;subst hx;exact hm
theorem cK.cons {num:Nat}(h:cK num l ms)(hm:zjr num A M):cK num (A::l) (M::ms):=by
 obtain⟨q,h1,h2,h3⟩:=h;refine⟨(A,M)::q,by simp[h1],by simp[h2],λ x hx=>?_⟩;rcases List.mem_cons.1 hx with hx | hx
 ·subst hx;exact hm
 ·exact h3 x hx
theorem z3i (s:B8)(p:Nat)(bd:Int)(cU:bd<0)(hp:p<=s.size):zss s p bd=((zD s p).1==4)/\zj3 s p bd=z6 s p 4/\zo0 s p bd=bd:=by
 have K:=zep s p hp;have e:zss s p bd=((zD s p).1==4):=by
  unfold zss;rw[Bool.eq_iff_iff];simp[cU,K.k4]
 by_cases h:(zD s p).1=4
 ·have hk:=K.k4.1 h;have t:=zf8 cU (p:=p) (s:=s) (by rw[hk];decide) (by rw[hk];decide);have hb:((zD s p).1==4)=true:=by simpa using h
  refine⟨e,?_,?_⟩
  ·unfold zj3 z6;rw[e,if_pos hb,if_pos hb,t.2,K.lL]
  ·unfold zo0;rw[e,if_pos hb,t.1]
 ·have hb:¬ ((zD s p).1==4)=true:=by simpa using h
  refine⟨e,?_,?_⟩
  ·unfold zj3 z6;rw[e,if_neg hb,if_neg hb]
  ·unfold zo0;rw[e,if_neg hb]
variable {p:Nat} {s:B8}
theorem ztz {k:Int}(h:p<=s.size):z6 s p k<=s.size:=by
 unfold z6;split
 ·exact (xE s p h).2
 ·exact h
theorem yeh (s:B8)(num p:Nat)(bd:Int)(cU:bd<0)(hp:p<=s.size):
  match yK s (z6 s p 4) with
  | .no q=>(xP s p bd).2=((zD s q).2.1:Int)
  | .yes q pd ts pl=>xP s p bd=(q,bd)/\cY s p pd ts=bl (zfa s p bd)/\zjr num (zfa s p bd) (dO s num p pd ts pl)/\q<=s.size:=by
 obtain⟨f1,f2,f3⟩:=z3i s p bd cU hp;have A:=zuz s (z6 s p 4) bd cU (ztz hp);have K:=zep s p hp;have K2:=zep s (z6 s p 4) (ztz hp);unfold xP zfa;rw[f1,f2,f3]
 cases hr:yK s (z6 s p 4) with
 | no q=>rw[hr] at A;exact A
 | yes q pd ts pl=>
  rw[hr] at A;obtain⟨a1,a2,a3,a4,a5⟩:=A;refine⟨a1,by simp[cY,bl,a2,a3],⟨rfl,rfl,a2,a3,λ _=>K.at_,K2.at_,a4⟩,a5⟩
theorem zw5 (s:B8)(f p:Nat)(bd:Int)(l:List yY):zi0 s (f+1) p bd l =
  if isS s (xP s p (xC s p bd l.length)).1 (xP s p (xC s p bd l.length)).2 { data:=#[44] } then
   zi0 s f (zb2 s (xP s p (xC s p bd l.length)).1 (xP s p (xC s p bd l.length)).2 { data:=#[44] }) (zb1 s (xP s p (xC s p bd l.length)).1 (xP s p (xC s p bd l.length)).2 { data:=#[44] }) (l++[zfa s p (xC s p bd l.length)])
  else (l++[zfa s p (xC s p bd l.length)],zb2 s (xP s p (xC s p bd l.length)).1 (xP s p (xC s p bd l.length)).2 { data:=#[44] },zb1 s (xP s p (xC s p bd l.length)).1 (xP s p (xC s p bd l.length)).2 { data:=#[44] }):=by rw[zi0]
theorem zw6 (s:B8)(f p:Nat)(bd:Int)(l:List yY)(a:Nat)(h:(xP s p (xC s p bd l.length)).2=(a:Int)):(zi0 s (f+1) p bd l).2.2=(a:Int):=by
 have h0:(0:Int)<=(a:Int):=by omega
 rw[zw5,h,ze7 h0,(zdx h0).1,(zdx h0).2];rfl
theorem zko {bd:Int}{a:Nat}{wd:B8}(h:bd=(a:Int)):jW s p (jI s p bd wd)=(a:Int):=by
 have h0:(0:Int)<=(a:Int):=by omega
 subst h;rw[zx2 h0];exact (zf9 h0).1
theorem ybj (s:B8)(num:Nat)(bd:Int)(cU:bd<0):∀ (f p:Nat) (l:List yY) (fE ms:List yT),l.length+f=3->p<=s.size->cK num l ms ->
  ((xL s num f p (l.map bl) (fE++ms)).1=true->∃ q ms',(zi0 s (f+1) p bd l).2=(q,bd)/\(zD s q).1=8/\q<=s.size/\(xL s num f p (l.map bl) (fE++ms)).2.1=(zD s q).2.2/\(xL s num f p (l.map bl) (fE++ms)).2.2.1=(zi0 s (f+1) p bd l).1.map bl/\(xL s num f p (l.map bl) (fE++ms)).2.2.2=fE++ms'/\cK num (zi0 s (f+1) p bd l).1 ms') /\
  ((xL s num f p (l.map bl) (fE++ms)).1=false->jW s (zi0 s (f+1) p bd l).2.1 (jI s (zi0 s (f+1) p bd l).2.1 (zi0 s (f+1) p bd l).2.2 { data:=#[46] })=((zD s (xL s num f p (l.map bl) (fE++ms)).2.1).2.1:Int)):=by
 intro f
 induction f with
 | zero=>
  intro p l fE ms hl hp _;have K:=zep s p hp;refine⟨λ h=>by simp[xL] at h,λ _=>?_⟩;have e:xC s p bd l.length=((tok s p).at_:Int):=by
   unfold xC;have:(l.length==3)=true:=by simp;omega
   rw[if_pos this,zht cU]
  have h0:(0:Int)<=((tok s p).at_:Int):=by omega
  have hb:=zw6 s 0 p bd l (tok s p).at_ (by rw[e];exact yb5 h0);simp only[xL];rw[zko hb,K.at_]
 | succ f ih=>
  intro p l fE ms hl hp hM;have e:xC s p bd l.length=bd:=by
   unfold xC;have:¬ (l.length==3)=true:=by simp;omega
   rw[if_neg this]
  have L:=yeh s num p bd cU hp;rw[xL]
  cases hr:yK s (z6 s p 4) with
  | no q=>
   rw[hr] at L;have hb:=zw6 s (f+1) p bd l (zD s q).2.1 (by rw[e];exact L);refine⟨λ h=>by simp at h,λ _=>?_⟩;rw[zko hb]
  | yes q pd ts pl=>
   rw[hr] at L;obtain⟨l1,l2,l3,l4⟩:=L;have K:=zep s q l4;have nD:l.map bl++[cY s p pd ts]=(l++[zfa s p bd]).map bl:=(by simp[l2]);have bz:fE++ms++[dO s num p pd ts pl]=fE++(ms++[dO s num p pd ts pl]):=(by simp);have E1:=hM.snoc l3;rw[zw5,e,l1];simp only;rw[nD,bz]
   by_cases hc:(tok s q).kind=115/\(tok s q).text.toList=[44]
   ·have gD:(tok s q).kind=115/\(tok s q).text.toList=({ data:=#[44] }:B8).toList:=⟨hc.1,by rw[hc.2,ByteArray.toList_eq]⟩;rw[if_pos (K.k7.2 hc),K.lL,(zg6 cU).2 gD,(ze5 cU gD).1,(ze5 cU gD).2,if_pos rfl];exact ih _ _ _ _ (by simp;omega) (by rw[<-K.lL];exact (xE s q l4).2) E1
   ·have gD:¬ ((tok s q).kind=115/\(tok s q).text.toList=({ data:=#[44] }:B8).toList):=λ h=>hc ⟨h.1,by rw[h.2,ByteArray.toList_eq]⟩
    rw[if_neg (λ h=>hc (K.k7.1 h)),zox cU gD,(ze6 cU gD).1,(ze6 cU gD).2,if_neg (by decide)]
    by_cases hs:(tok s q).kind=115/\(tok s q).text.toList=[46]
    ·have h8:=K.k8.2 hs;have oq:z6 s q 8=(zD s q).2.2:=(by unfold z6;rw[if_pos (by simpa using h8)]);refine⟨λ _=>⟨q,ms++[dO s num p pd ts pl],rfl,h8,l4,oq,rfl,rfl,E1⟩,λ h=>by simp[h8] at h⟩
    ·have h8:¬ (zD s q).1=8:=λ h=>hs (K.k8.1 h)
     have oq:z6 s q 8=q:=(by unfold z6;rw[if_neg (by simpa using h8)]);have im:¬ ((tok s q).kind=115/\(tok s q).text.toList=({ data:=#[46] }:B8).toList):=λ h=>hs ⟨h.1,by rw[h.2,ByteArray.toList_eq]⟩
     refine⟨λ h=>by simp[h8] at h,λ _=>?_⟩;simp only[oq];rw[zvr cU im,K.at_]
theorem yct (s:B8)(num p:Nat)(bd:Int)(cU:bd<0)(hp:p<=s.size)(ms:List yT):
  ((yQ s num p ms).1=true->∃ ms',zmm s p bd=(yQ s num p ms).2.1/\zcu s p bd=bd/\(yQ s num p ms).2.1<=s.size/\(yQ s num p ms).2.2.1=yV (zif s p bd)/\(yQ s num p ms).2.2.2=ms++ms'/\cK num (zif s p bd).atoms ms') /\
  ((yQ s num p ms).1=false->zcu s p bd=((zD s (yQ s num p ms).2.1).2.1:Int)):=by
 have A:=zuz s p bd cU hp;have K:=zep s p hp;unfold yQ
 cases hr:yK s p with
 | no q=>
  rw[hr] at A;have h0:(0:Int)<=((zD s q).2.1:Int):=by omega
  refine⟨λ h=>by simp at h,λ _=>?_⟩;unfold zcu zbj;rw[show (yD s p bd).2.2=((zD s q).2.1:Int) from A,ze7 h0];simp only[Bool.false_eq_true,if_false];exact zko (zdx h0).2
 | yes q pd ts pl=>
  rw[hr] at A;obtain⟨a1,a2,a3,a4,a5⟩:=A;have pC:(yD s p bd).2.1=q:=by rw[a1]
  have pD:(yD s p bd).2.2=bd:=by rw[a1]
  have K2:=zep s q a5;have hrel:zjr num (Lh s p bd) (dm s num p pd ts pl):=⟨rfl,rfl,a2,a3,λ h=>by simp[Lh] at h,K.at_,a4⟩
  by_cases hw:(tok s q).kind=115/\(tok s q).text.toList=[58,45]
  ·have uY:(tok s q).kind=115/\(tok s q).text.toList=({ data:=#[58,45] }:B8).toList:=⟨hw.1,by rw[hw.2,ByteArray.toList_eq]⟩;have h9:=K2.k9.2 hw;have h8:¬ (zD s q).1=8:=(by rw[h9];decide);have eB:zbj s p bd=zi0 s 4 (tok s q).to bd []:=by
    unfold zbj;rw[pC,pD,(zg6 cU).2 uY,(ze5 cU uY).1,(ze5 cU uY).2];rfl
   have zj:(tok s q).to<=s.size:=(by rw[<-K2.lL];exact (xE s q a5).2);have B:=ybj s num bd cU 3 (tok s q).to [] (ms++[dm s num p pd ts pl]) [] rfl zj (cK.nil num);rw[List.map_nil,List.append_nil] at B;simp only[if_neg h8,if_pos h9,K2.lL];refine⟨λ h=>?_,λ h=>?_⟩
   ·obtain⟨r,ms',b1,b2,b3,b4,b5,b6,b7⟩:=B.1 h;have K3:=zep s r b3;have hs:=K3.k8.1 b2;have im:(tok s r).kind=115/\(tok s r).text.toList=({ data:=#[46] }:B8).toList:=⟨hs.1,by rw[hs.2,ByteArray.toList_eq]⟩;have e1:(zbj s p bd).2.1=r:=(by rw[eB,b1]);have e2:(zbj s p bd).2.2=bd:=(by rw[eB,b1]);refine⟨dm s num p pd ts pl::ms',?_,?_,?_,?_,?_,?_⟩
    ·unfold zmm;rw[e1,e2,(zfx cU im).1,b4,K3.lL]
    ·unfold zcu;rw[e1,e2,(zfx cU im).2]
    ·rw[b4];exact (xE s r b3).2
    ·rw[b5,<-eB];simp[yV,zif,Lh,a2,a3]
    ·rw[b6];simp
    ·rw[<-eB] at b7;exact cK.cons b7 hrel
   ·unfold zcu;rw[eB];exact B.2 h
  ·have uY:¬ ((tok s q).kind=115/\(tok s q).text.toList=({ data:=#[58,45] }:B8).toList):=λ h=>hw ⟨h.1,by rw[h.2,ByteArray.toList_eq]⟩
   have h9:¬ (zD s q).1=9:=λ h=>hw (K2.k9.1 h)
   have eB:zbj s p bd=([],q,bd):=by
    unfold zbj;rw[pC,pD,zox cU uY,(ze6 cU uY).1,(ze6 cU uY).2];rfl
   by_cases hs:(tok s q).kind=115/\(tok s q).text.toList=[46]
   ·have im:(tok s q).kind=115/\(tok s q).text.toList=({ data:=#[46] }:B8).toList:=⟨hs.1,by rw[hs.2,ByteArray.toList_eq]⟩;have h8:=K2.k8.2 hs;simp only[if_pos h8];refine⟨λ _=>⟨[dm s num p pd ts pl],?_,?_,(xE s q a5).2,?_,rfl,?_⟩,λ h=>by simp at h⟩
    ·unfold zmm;rw[eB];simp only;rw[(zfx cU im).1,K2.lL]
    ·unfold zcu;rw[eB];simp only;rw[(zfx cU im).2]
    ·simp[yV,zif,Lh,eB,a2,a3]
    ·have:(zif s p bd).atoms=[Lh s p bd]:=by simp[zif,yU.atoms,eB]
     rw[this];exact cK.cons (cK.nil num) hrel
   ·have im:¬ ((tok s q).kind=115/\(tok s q).text.toList=({ data:=#[46] }:B8).toList):=λ h=>hs ⟨h.1,by rw[h.2,ByteArray.toList_eq]⟩
    have h8:¬ (zD s q).1=8:=λ h=>hs (K2.k8.1 h)
    simp only[if_neg h8,if_neg h9];refine⟨λ h=>by simp at h,λ _=>?_⟩;unfold zcu;rw[eB];simp only;rw[zvr cU im,K2.at_]
inductive jU:Nat->List yU->List yT->Prop where
 | nil (n:Nat):jU n [] []
 | cons {n:Nat} {R:yU} {rs:List yU} {ms ms':List yT} (h:cK n R.atoms ms) (t:jU (n+1) rs ms'):jU n (R::rs) (ms++ms')
theorem jU.snoc {n:Nat}{rs:List yU}(h:jU n rs ms):∀ {R:yU} {ms':List yT},cK (n+rs.length) R.atoms ms'->jU n (rs++[R]) (ms++ms'):=by
 induction h with
 | nil n=>
  intro R ms' hm;have:=jU.cons (rs:=[]) (ms':=[]) hm (jU.nil _);simpa using this
 | cons h t ih=>
  intro R ms' hm;rw[List.append_assoc,List.cons_append];refine jU.cons h (ih ?_);simpa[Nat.add_comm,Nat.add_left_comm,Nat.add_assoc] using hm
theorem z8y (s:B8)(bd:Int)(cU:bd<0):∀ (f p:Nat) (rs:List yU) (ms:List yT),rs.length+f=30->p<=s.size->jU 0 rs ms ->
  ((xK s (f+1) p (rs.map yV) ms).1=true->(zdk s (f+1) p bd rs).2.2=bd/\(xK s (f+1) p (rs.map yV) ms).2.2.1=(zdk s (f+1) p bd rs).1.map yV/\jU 0 (zdk s (f+1) p bd rs).1 (xK s (f+1) p (rs.map yV) ms).2.2.2) /\
  ((xK s (f+1) p (rs.map yV) ms).1=false->(zdk s (f+1) p bd rs).2.2=((zD s (xK s (f+1) p (rs.map yV) ms).2.1).2.1:Int)):=by
 intro f
 induction f with
 | zero=>
  intro p rs ms hl hp hT;have K:=zep s p hp;rw[xK,zdk]
  by_cases h0:(zD s p).1=0
  ·have hg:zem s p bd=false:=(by unfold zem;simp[K.k0.1 h0]);rw[if_pos h0,hg,if_neg (by decide)];exact⟨λ _=>⟨rfl,rfl,hT⟩,λ h=>by simp at h⟩
  ·have hg:zem s p bd=true:=(by unfold zem;simp[cU];exact λ h=>h0 (K.k0.2 h));rw[if_neg h0,if_pos (by simp;omega),hg,if_pos rfl];refine⟨λ h=>by simp at h,λ _=>?_⟩;have e:zec s p bd rs.length=((tok s p).at_:Int):=by
    unfold zec;rw[if_pos (by simp;omega),zht cU]
   have oa:(0:Int)<=((tok s p).at_:Int):=(by omega);simp only[zdk,e];unfold zcu;have hb:(zbj s p ((tok s p).at_:Int)).2.2=((tok s p).at_:Int):=by
    unfold zbj;rw[zw3 oa,ze7 oa,(zdx oa).1,(zdx oa).2];rfl
   rw[zko hb,K.at_]
 | succ f ih=>
  intro p rs ms hl hp hT;have K:=zep s p hp;rw[xK,zdk]
  by_cases h0:(zD s p).1=0
  ·have hg:zem s p bd=false:=(by unfold zem;simp[K.k0.1 h0]);rw[if_pos h0,hg,if_neg (by decide)];exact⟨λ _=>⟨rfl,rfl,hT⟩,λ h=>by simp at h⟩
  ·have hg:zem s p bd=true:=(by unfold zem;simp[cU];exact λ h=>h0 (K.k0.2 h));have e:zec s p bd rs.length=bd:=(by unfold zec;rw[if_neg (by simp;omega)]);rw[if_neg h0,if_neg (by simp;omega),hg,if_pos rfl,e,List.length_map];have R:=yct s rs.length p bd cU hp ms
   cases hr:(yQ s rs.length p ms).1 with
   | true=>
    obtain⟨ms',r1,r2,r3,r4,r5,r6⟩:=R.1 hr;rw[if_pos rfl,r1,r2,r4,r5];have e2:rs.map yV++[yV (zif s p bd)]=(rs++[zif s p bd]).map yV:=(by simp);rw[e2];exact ih _ _ _ (by simp;omega) r3 (hT.snoc (by simpa using r6))
   | false=>
    have hb:=R.2 hr;rw[if_neg (by decide)];refine⟨λ h=>by simp at h,λ _=>?_⟩;have oa:zem s (zmm s p bd) (zcu s p bd)=false:=(by unfold zem;rw[hb];simp);rw[z49 _ _ _ _ _ oa];exact hb
def zJ (s:B8):Bool × Nat × List yH × List yT:=xK s 31 0 [] []
theorem zh7 (s:B8):
  ((zJ s).1=true->(vE s).2.2=-1/\(zJ s).2.2.1=(vE s).1.map yV/\jU 0 (vE s).1 (zJ s).2.2.2) /\
  ((zJ s).1=false->(vE s).2.2=((zD s (zJ s).2.1).2.1:Int)):=
 z8y s (-1) (by decide) 30 0 [] [] rfl (Nat.zero_le _) (jU.nil 0)
end
section
def zP (s:B8):List UInt8:=s.data.toList
theorem zc3 (s:B8):(zP s).length=s.size:=by unfold zP;rw[Array.length_toList];rfl
variable {i:Nat} {s:B8}
theorem zy1 (h:i<s.size):(zP s)[i]?=some s[i]:=by
 unfold zP;rw[Array.getElem?_toList];have:s.data[i]?=some s.data[i]:=Array.getElem?_eq_getElem h;exact this
variable {r:List UInt8}
theorem zp7 {c:UInt8}(h:(zP s).drop i=c::r):∃ hi:i<s.size,s[i]=c/\(zP s).drop (i+1)=r:=by
 have hi:i<s.size:=by
  rw[<-zc3];apply Nat.lt_of_not_le;intro hl;rw[List.drop_eq_nil_of_le hl] at h;cases h
 have h1:=zy1 hi;have h2:((zP s).drop i)[0]?=some c:=by rw[h];rfl
 rw[List.getElem?_drop,Nat.add_zero,h1] at h2;refine⟨hi,Option.some.inj h2,?_⟩;have:(zP s).drop (i+1)=((zP s).drop i).drop 1:=by rw[List.drop_drop]
 rw[this,h];rfl
theorem zfp (q:Int->Bool){s:B8}:∀ (w:List UInt8) (i:Nat) (r:List UInt8),(zP s).drop i=w++r->(∀ c∈w,q c.toNat=true)->(∀ c r',r=c::r'->q c.toNat=false)->yS q s i=i+w.length
 | [],i,r,h,_,hr=>by
  cases r with
  | nil=>
   have:¬ i<s.size:=λ hi=>by
    rw[<-zc3] at hi;have:=List.length_drop (i:=i) (l:=zP s);rw[h] at this;simp at this;omega
   rw[zco _ _ _ this];rfl
  | cons c r'=>
   obtain⟨hi,hc,_⟩:=zp7 (c:=c) (r:=r') h;rw[zbd q s i hi (by rw[hc];exact hr c r' rfl)];rfl
 | c::w,i,r,h,hw,hr=>by
  obtain⟨hi,hc,hd⟩:=zp7 (c:=c) (r:=w++r) h;rw[zbc q s i hi (by rw[hc];exact hw c List.mem_cons_self),zfp q w (i+1) r hd (λ x hx=>hw x (List.mem_cons_of_mem _ hx)) hr,List.length_cons];omega
variable {w:List UInt8}
theorem ze3 (h:(zP s).drop i=w++r):s.extract i (i+w.length)=⟨w.toArray⟩:=by
 apply ByteArray.ext;apply Array.toList_inj.1
 show (s.extract i (i+w.length)).data.toList=w
 rw[ByteArray.data_extract,Array.toList_extract,List.extract_eq_take_drop]
 show ((zP s).drop i).take (i+w.length-i)=w
 rw[h,show i+w.length-i=w.length by omega,List.take_left' rfl]
structure zux (s:B8)(p:Nat)(k:Int)(w:List UInt8)(q:Nat):Prop where
 kind:(zD s p).1=k
 word:yP s p=⟨w.toArray⟩
 stop:(zD s p).2.2=q
inductive vU:Int->List UInt8->Prop
 | name {w:List UInt8}:w≠[]->w.length<=8->(∀ c∈w,jE c.toNat=true)->w≠[110,111,116]->vU 2 w
 | var {w:List UInt8}:w≠[]->w.length<=8->(∀ c∈w,xA c.toNat=true)->vU 3 w
 | rA:vU 4 [110,111,116]
 | open_:vU 5 [40]
 | shut:vU 6 [41]
 | comma:vU 7 [44]
 | dot:vU 8 [46]
 | mR:vU 9 [58,45]
def yfe (k:Int)(r:List UInt8):Prop:=∀ c r',r=c::r'->((k=2\/k=4)->jE c.toNat=false)/\(k=3->xA c.toNat=false)
theorem z3r {a:Nat}(k:Int)(n p:Nat)(hp:yS yG s p=a)(h:qG (s.extract a s.size)=(k,n)):(zD s p).1=k/\(zD s p).2.1=a/\(zD s p).2.2=a+n:=by
 unfold zD;rw[hp,h];exact⟨rfl,rfl,rfl⟩
theorem zxh (s:B8)(a:Nat):zP (s.extract a s.size)=(zP s).drop a:=by
 unfold zP;rw[ByteArray.data_extract,Array.toList_extract,List.extract_eq_take_drop,List.take_of_length_le];rw[List.length_drop,Array.length_toList];exact Nat.le_refl _
theorem zce (w:List UInt8):(⟨w.toArray⟩:B8).toList=w:=by rw[ByteArray.toList_eq]
variable {k:Int}
theorem z71 {r:B8}{rest:List UInt8}(hk:vU k w)(h:zP r=w++rest)(he:yfe k rest):qG r=(k,w.length):=by
 have h0:(zP r).drop 0=w++rest:=h;have hsz:r.size=w.length+rest.length:=by rw[<-zc3,h,List.length_append]
 have lV:r.extract 0 w.length=⟨w.toArray⟩:=by have:=ze3 h0;rwa [Nat.zero_add] at this
 have first:∀ c w',w=c::w'->∃ hi:0<r.size,r[0]=c:=λ c w' e=>by
  rw[e] at h0;obtain⟨hi,hc,_⟩:=zp7 h0;exact⟨hi,hc⟩
 have aX:(∀ c∈w,jE c.toNat=true)->(k=2\/k=4)->yS jE r 0=w.length:=λ hw hk=>by
  have:=zfp jE w 0 rest h0 hw (λ c r' e=>(he c r' e).1 hk)
  rwa [Nat.zero_add] at this
 cases hk with
 | name bG hl hw hn=>
  obtain⟨c,w',e⟩:=List.exists_cons_of_ne_nil bG;obtain⟨hi,hc⟩:=first c w' e;have gD:jE (r[0].toNat:Int)=true:=by rw[hc];exact hw c (by rw[e];exact List.mem_cons_self)
  unfold qG;rw[dif_pos hi,if_pos gD];unfold zh2;rw[aX hw (.inl rfl),if_neg (by omega),lV,zce,if_neg hn]
 | var bG hl hw=>
  obtain⟨c,w',e⟩:=List.exists_cons_of_ne_nil bG;obtain⟨hi,hc⟩:=first c w' e;have Jc:=hw c (by rw[e];exact List.mem_cons_self);have mC:xA (r[0].toNat:Int)=true:=by rw[hc];exact Jc
  have nA:¬ jE (r[0].toNat:Int)=true:=by
   unfold xA at mC;unfold jE;simp at mC ⊢;omega
  have nJ:yS xA r 0=w.length:=by
   have:=zfp xA w 0 rest h0 hw (λ c r' e=>(he c r' e).2 rfl)
   rwa [Nat.zero_add] at this
  unfold qG;rw[dif_pos hi,if_neg nA,if_pos mC];unfold z6c;rw[nJ,if_neg (by omega)]
 | rA=>
  obtain⟨hi,hc⟩:=first 110 [111,116] rfl;have gD:jE (r[0].toNat:Int)=true:=by rw[hc];decide
  unfold qG;rw[dif_pos hi,if_pos gD];unfold zh2;rw[aX (by decide) (.inr rfl),if_neg (by decide),lV,zce,if_pos rfl]
 | open_=>
  obtain⟨hi,hc⟩:=first 40 [] rfl;have h1:(r.extract 0 1).toList=[40]:=by have:r.extract 0 1=_:=lV;rw[this,zce]
  unfold qG;rw[dif_pos hi,if_neg (by rw[hc];decide),if_neg (by rw[hc];decide)];unfold zdl;rw[if_pos ⟨by omega,h1⟩];rfl
 | shut=>
  obtain⟨hi,hc⟩:=first 41 [] rfl;have h1:(r.extract 0 1).toList=[41]:=by have:r.extract 0 1=_:=lV;rw[this,zce]
  unfold qG;rw[dif_pos hi,if_neg (by rw[hc];decide),if_neg (by rw[hc];decide)];unfold zdl;rw[h1,if_neg (λ x=>by cases x.2),if_pos ⟨by omega,rfl⟩];rfl
 | comma=>
  obtain⟨hi,hc⟩:=first 44 [] rfl;have h1:(r.extract 0 1).toList=[44]:=by have:r.extract 0 1=_:=lV;rw[this,zce]
  unfold qG;rw[dif_pos hi,if_neg (by rw[hc];decide),if_neg (by rw[hc];decide)];unfold zdl;rw[h1,if_neg (λ x=>by cases x.2),if_neg (λ x=>by cases x.2),if_pos ⟨by omega,rfl⟩];rfl
 | dot=>
  obtain⟨hi,hc⟩:=first 46 [] rfl;have h1:(r.extract 0 1).toList=[46]:=by have:r.extract 0 1=_:=lV;rw[this,zce]
  unfold qG;rw[dif_pos hi,if_neg (by rw[hc];decide),if_neg (by rw[hc];decide)];unfold zdl;rw[h1,if_neg (λ x=>by cases x.2),if_neg (λ x=>by cases x.2),if_neg (λ x=>by cases x.2),if_pos ⟨by omega,rfl⟩];rfl
 | mR=>
  obtain⟨hi,hc⟩:=first 58 [45] rfl;have h2:(r.extract 0 2).toList=[58,45]:=by have:r.extract 0 2=_:=lV;rw[this,zce]
  have h1:(r.extract 0 1).toList=[58]:=by
   have:=ze3 (s:=r) (i:=0) (w:=[58]) (r:=45::rest) h0;rw[show r.extract 0 1=_ from this,zce]
  have h3:2<=r.size:=by rw[hsz];simp
  unfold qG;rw[dif_pos hi,if_neg (by rw[hc];decide),if_neg (by rw[hc];decide)];unfold zdl;rw[h1,h2,if_neg (λ x=>by cases x.2),if_neg (λ x=>by cases x.2),if_neg (λ x=>by cases x.2),if_neg (λ x=>by cases x.2),if_pos ⟨h3,rfl⟩];rfl
variable {b:List UInt8} {p:Nat}
theorem yev (h:(zP s).drop p=b++(w++r))(hb:∀ c∈b,yG c.toNat=true)(hk:vU k w)(he:yfe k r):zux s p k w (p+b.length+w.length)/\(zP s).drop (p+b.length+w.length)=r:=by
 have dJ:∀ c r',w++r=c::r'->yG c.toNat=false:=λ c r' e=>by
  have low:∀ x:UInt8,jE x.toNat=true->yG x.toNat=false:=λ x hx=>by
   unfold jE at hx;unfold yG;simp at hx ⊢;omega
  have high:∀ x:UInt8,xA x.toNat=true->yG x.toNat=false:=λ x hx=>by
   unfold xA at hx;unfold yG;simp at hx ⊢;omega
  cases hk with
  | name bG _ hw _=>
   obtain⟨d,w',e'⟩:=List.exists_cons_of_ne_nil bG;rw[e'] at e hw;injection e with e1
   rw[<-e1];exact low _ (hw d List.mem_cons_self)
  | var bG _ hw=>
   obtain⟨d,w',e'⟩:=List.exists_cons_of_ne_nil bG;rw[e'] at e hw;injection e with e1
   rw[<-e1];exact high _ (hw d List.mem_cons_self)
  | rA=>injection e with e1;rw[<-e1];decide
  | open_=>injection e with e1;rw[<-e1];decide
  | shut=>injection e with e1;rw[<-e1];decide
  | comma=>injection e with e1;rw[<-e1];decide
  | dot=>injection e with e1;rw[<-e1];decide
  | mR=>injection e with e1;rw[<-e1];decide
 have nJ:=zfp yG b p (w++r) h hb dJ;have hd:(zP s).drop (p+b.length)=w++r:=by rw[<-List.drop_drop,h,List.drop_left' rfl]
 have hm:=z71 (r:=s.extract (p+b.length) s.size) hk (by rw[zxh];exact hd) he;obtain⟨h1,h2,h3⟩:=z3r k w.length p nJ hm;refine⟨⟨h1,?_,h3⟩,by rw[<-List.drop_drop,hd,List.drop_left' rfl]⟩;unfold yP;rw[h2,h3];exact ze3 hd
theorem zpu (h:(zP s).drop p=b)(hb:∀ c∈b,yG c.toNat=true):(zD s p).1=0:=by
 have nJ:=zfp yG b p [] (by rw[List.append_nil];exact h) hb (λ c r' e=>by cases e);have hz:¬ 0<(s.extract (p+b.length) s.size).size:=by
  rw[<-zc3,zxh,<-List.drop_drop,h,List.drop_length];exact Nat.lt_irrefl 0
 have hm:qG (s.extract (p+b.length) s.size)=(0,0):=by unfold qG;rw[dif_neg hz]
 exact (z3r 0 0 p nJ hm).1
end
section
abbrev TkL:=List (Int × List UInt8)
inductive aM (s:B8):Nat->TkL->Nat->Prop
 | nil (p:Nat):aM s p [] p
 | cons {p q r:Nat} {k:Int} {w:List UInt8} {l:TkL}:zux s p k w q->aM s q l r->aM s p ((k,w)::l) r
theorem aM.split {s:B8}{b:TkL}{r:Nat}:∀ {a:TkL} {p:Nat},aM s p (a++b) r->∃ q,aM s p a q/\aM s q b r
 | [],p,h=>⟨p,.nil p,h⟩
 | x::a,p,h=>by
  cases h with
  | cons h1 h2=>
   obtain⟨q,h3,h4⟩:=aM.split h2;exact⟨q,.cons h1 h3,h4⟩
variable {w:List UInt8} {k:Int} {p r:Nat} {s:B8}
theorem aM.head {l:TkL}(h:aM s p ((k,w)::l) r):∃ q,zux s p k w q/\aM s q l r:=by
 cases h with
 | cons h1 h2=>exact⟨_,h1,h2⟩
theorem aM.last (h:aM s p [(k,w)] r):zux s p k w r:=by
 obtain⟨q,h1,h2⟩:=h.head
 cases h2
 exact h1
theorem zdu (n:B8):(⟨(zP n).toArray⟩:B8)=n:=by unfold zP;rw[Array.toArray_toList]
def za1 (t:Bool × B8):Int × List UInt8:=(if t.1 then 3 else 2,zP t.2)
def zhg:List (Bool × B8)->TkL
 | []=>[]
 | [t]=>[za1 t,(6,[41])]
 | t::u::r=>za1 t::(7,[44])::zhg (u::r)
def zk5 (pd:B8)(ts:List (Bool × B8)):TkL:=match ts with
 | []=>[(2,zP pd)]
 | t::r=>(2,zP pd)::(5,[40])::zhg (t::r)
def zst (l:yR):TkL:=(if l.neg then [(4,[110,111,116])] else [])++zk5 l.pd l.ts
def zjt:List yR->TkL
 | []=>[]
 | [l]=>zst l++[(8,[46])]
 | l::m::r=>zst l++(7,[44])::zjt (m::r)
def zj7 (R:yH):TkL:=zk5 R.pd R.ts++match R.body with
 | []=>[(8,[46])]
 | l::r=>(9,[58,45])::zjt (l::r)
variable {q:Nat}
theorem zyj {t:Bool × B8}(h:zux s p (za1 t).1 (za1 t).2 q):((zD s p).1=2\/(zD s p).1=3)/\(decide ((zD s p).1=3),yP s p)=t:=by
 obtain⟨b,n⟩:=t;have hk:=h.kind;have hw:=h.word;unfold za1 at hk hw;simp only at hk hw;rw[zdu] at hw
 cases b with
 | true=>simp only[if_true] at hk;exact⟨.inr hk,by rw[hk,hw];rfl⟩
 | false=>simp only[Bool.false_eq_true,if_false] at hk;exact⟨.inl hk,by rw[hk,hw];rfl⟩
theorem zmh {s:B8}:∀ (ts:List (Bool × B8)) (f p q:Nat) (l:List (Bool × B8)) (pl:Nat->Nat),ts≠[]->ts.length<=f->aM s p (zhg ts) q->∃ DL,zN s f p l pl=(true,q,l++ts,DL)
 | [],_,_,_,_,_,h,_,_=>absurd rfl h
 | [t],f,p,q,l,pl,_,hf,h=>by
  obtain⟨f,rfl⟩:∃ g,f=g+1:=⟨f-1,by simp at hf;omega⟩;obtain⟨p1,h1,h2⟩:=aM.head (l:=[(6,[41])]) (k:=(za1 t).1) (w:=(za1 t).2) h;have h3:=h2.last;obtain⟨e1,e2⟩:=zyj h1;have e3:(zD s p1).1=6:=h3.kind;refine⟨dL pl l.length (zD s p).2.1,?_⟩;rw[zN,if_pos e1,h1.stop,e2,e3,if_neg (by decide)];unfold z6;rw[e3,h3.stop];rfl
 | t::u::r,f,p,q,l,pl,_,hf,h=>by
  obtain⟨f,rfl⟩:∃ g,f=g+1:=⟨f-1,by simp at hf;omega⟩;obtain⟨p1,h1,h2⟩:=aM.head (l:=(7,[44])::zhg (u::r)) (k:=(za1 t).1) (w:=(za1 t).2) h;obtain⟨p2,h3,h4⟩:=h2.head;obtain⟨e1,e2⟩:=zyj h1;obtain⟨DL,ih⟩:=zmh (u::r) f p2 q (l++[t]) (dL pl l.length (zD s p).2.1) (by simp) (by simp at hf ⊢;omega) h4;refine⟨DL,?_⟩;rw[zN,if_pos e1,h1.stop,e2,h3.kind,if_pos rfl,h3.stop,ih,List.append_assoc];rfl
theorem zdf {pd:B8}{ts:List (Bool × B8)}(h4:ts.length<=4)(h:aM s p (zk5 pd ts) q)(hq:ts=[]->(zD s q).1≠5):(zD s p).1=2/\∃ pl,yK s p=.yes q pd ts pl:=by
 cases ts with
 | nil=>
  have h1:zux s p 2 (zP pd) q:=aM.last h;refine⟨h1.kind,λ _=>0,?_⟩;unfold yK;rw[if_pos h1.kind,h1.stop,if_neg (hq rfl),h1.word,zdu]
 | cons t r=>
  obtain⟨p1,h1,h2⟩:=aM.head (k:=2) (w:=zP pd) (l:=(5,[40])::zhg (t::r)) h;obtain⟨p2,h3,h5⟩:=h2.head;obtain⟨pl,h6⟩:=zmh (t::r) 4 p2 q [] (λ _=>0) (by simp) h4 h5;refine⟨h1.kind,pl,?_⟩;unfold yK;rw[if_pos h1.kind,h1.stop,h3.kind,if_pos rfl,h3.stop,h6,if_pos rfl,h1.word,zdu];rfl
def zgq (M:yT):Nat × Bool × B8 × List (Bool × B8):=(M.num,M.neg,M.pd,M.ts)
def zj2 (n:Nat)(l:yR):Nat × Bool × B8 × List (Bool × B8):=(n,l.neg,l.pd,l.ts)
def zg8:Nat->List yH->List (Nat × Bool × B8 × List (Bool × B8))
 | _,[]=>[]
 | n,R::r=>(n,false,R.pd,R.ts)::(R.body.map (zj2 n)++zg8 (n+1) r)
theorem zth {l:yR}(h4:l.ts.length<=4)(h:aM s p (zst l) q)(hq:l.ts=[]->(zD s q).1≠5):∃ pl,yK s (z6 s p 4)=.yes q l.pd l.ts pl/\cY s p l.pd l.ts=l/\∀ num,zgq (dO s num p l.pd l.ts pl)=zj2 num l:=by
 obtain⟨neg,pd,ts⟩:=l;unfold zst at h
 cases neg with
 | false=>
  have h':aM s p (zk5 pd ts) q:=h;obtain⟨hk,pl,he⟩:=zdf h4 h' hq;have hb:((zD s p).1==4)=false:=by rw[hk];rfl
  refine⟨pl,?_,?_,λ num=>?_⟩
  ·unfold z6;rw[hb];exact he
  ·unfold cY;rw[hb]
  ·unfold zgq dO zj2;simp only[hb]
 | true=>
  have h':aM s p ((4,[110,111,116])::zk5 pd ts) q:=h;obtain⟨p1,h1,h2⟩:=h'.head;obtain⟨hk,pl,he⟩:=zdf h4 h2 hq;have hb:((zD s p).1==4)=true:=by rw[h1.kind];rfl
  refine⟨pl,?_,?_,λ num=>?_⟩
  ·unfold z6;rw[hb,h1.stop];exact he
  ·unfold cY;rw[hb]
  ·unfold zgq dO zj2;simp only[hb]
theorem zo8 {s:B8}{num:Nat}:∀ (b:List yR) (f p q:Nat) (l:List yR) (ms:List yT),b≠[]->b.length<=f->(∀ x∈b,x.ts.length<=4)->aM s p (zjt b) q->∃ ms',xL s num f p l ms=(true,q,l++b,ms++ms')/\ms'.map zgq=b.map (zj2 num)
 | [],_,_,_,_,_,h,_,_,_=>absurd rfl h
 | [x],f,p,q,l,ms,_,hf,h4,h=>by
  obtain⟨f,rfl⟩:∃ g,f=g+1:=⟨f-1,by simp at hf;omega⟩;obtain⟨p1,h1,h2⟩:=aM.split (a:=zst x) (b:=[(8,[46])]) h;have h3:=h2.last;have hk:(zD s p1).1=8:=h3.kind;obtain⟨pl,e1,e2,e3⟩:=zth (h4 x List.mem_cons_self) h1 (λ _=>by rw[hk];decide);refine⟨[dO s num p x.pd x.ts pl],?_,by rw[List.map_cons,e3];rfl⟩;rw[xL,e1];simp only;rw[hk,if_neg (by decide),e2];unfold z6;rw[hk,h3.stop];rfl
 | x::y::r,f,p,q,l,ms,_,hf,h4,h=>by
  obtain⟨f,rfl⟩:∃ g,f=g+1:=⟨f-1,by simp at hf;omega⟩;obtain⟨p1,h1,h2⟩:=aM.split (a:=zst x) (b:=(7,[44])::zjt (y::r)) h;obtain⟨p2,h3,h5⟩:=h2.head;have hk:(zD s p1).1=7:=h3.kind;obtain⟨pl,e1,e2,e3⟩:=zth (h4 x List.mem_cons_self) h1 (λ _=>by rw[hk];decide);obtain⟨ms',Ku,Kv⟩:=zo8 (num:=num) (y::r) f p2 q (l++[x]) (ms++[dO s num p x.pd x.ts pl]) (by simp) (by simp at hf ⊢;omega) (λ z hz=>h4 z (List.mem_cons_of_mem _ hz)) h5;refine⟨dO s num p x.pd x.ts pl::ms',?_,by rw[List.map_cons,e3,Kv];rfl⟩;rw[xL,e1];simp only;rw[hk,if_pos rfl,e2,h3.stop,Ku,List.append_assoc,List.append_assoc];rfl
structure z6v (R:yH):Prop where
 ts:R.ts.length<=4
 body:R.body.length<=3
 DJ:∀ x∈R.body,x.ts.length<=4
theorem z0f {num:Nat}{R:yH}(hR:z6v R)(ms:List yT)(h:aM s p (zj7 R) q):(zD s p).1=2/\∃ ms',yQ s num p ms=(true,q,R,ms++ms')/\ms'.map zgq=(num,false,R.pd,R.ts)::R.body.map (zj2 num):=by
 obtain⟨pd,ts,body⟩:=R;unfold zj7 at h;obtain⟨p1,h1,h2⟩:=aM.split h
 cases body with
 | nil=>
  have h3:zux s p1 8 [46] q:=aM.last h2;obtain⟨hk,pl,he⟩:=zdf hR.ts h1 (λ _=>by rw[h3.kind];decide);refine⟨hk,[dm s num p pd ts pl],?_,rfl⟩;unfold yQ;rw[he];simp only;rw[h3.kind,if_pos rfl,h3.stop]
 | cons x r=>
  obtain⟨p2,h3,h5⟩:=aM.head (k:=9) (w:=[58,45]) (l:=zjt (x::r)) h2;obtain⟨hk,pl,he⟩:=zdf hR.ts h1 (λ _=>by rw[h3.kind];decide);obtain⟨ms',e1,e2⟩:=zo8 (num:=num) (x::r) 3 p2 q [] (ms++[dm s num p pd ts pl]) (by simp) hR.body hR.DJ h5;refine⟨hk,dm s num p pd ts pl::ms',?_,by rw[List.map_cons,e2];rfl⟩;unfold yQ;rw[he];simp only;rw[h3.kind,if_neg (by decide),if_pos rfl,h3.stop,e1,List.append_assoc];rfl
theorem zmg {s:B8}{q:Nat}(hq:(zD s q).1=0):∀ (rules:List yH) (rs:List yH) (ms:List yT) (p f:Nat),(∀ R∈rules,z6v R)->rs.length+rules.length<=30->rules.length<f->aM s p (rules.flatMap zj7) q->∃ ms',xK s f p rs ms=(true,q,rs++rules,ms++ms')/\ms'.map zgq=zg8 rs.length rules
 | [],rs,ms,p,f,_,_,hf,h=>by
  obtain⟨f,rfl⟩:∃ g,f=g+1:=⟨f-1,by simp at hf;omega⟩
  cases h
  refine⟨[],?_,rfl⟩;rw[xK,if_pos hq,List.append_nil,List.append_nil]
 | R::r,rs,ms,p,f,hR,hl,hf,h=>by
  obtain⟨f,rfl⟩:∃ g,f=g+1:=⟨f-1,by simp at hf;omega⟩;rw[List.flatMap_cons] at h;obtain⟨p1,h1,h2⟩:=aM.split h;obtain⟨hk,Gz,e1,e2⟩:=z0f (num:=rs.length) (hR R List.mem_cons_self) ms h1;simp only[List.length_cons] at hl hf;obtain⟨KE,e3,e4⟩:=zmg hq r (rs++[R]) (ms++Gz) p1 f (λ x hx=>hR x (List.mem_cons_of_mem _ hx)) (by rw[List.length_append,List.length_singleton];omega) (by omega) h2;refine⟨Gz++KE,?_,?_⟩
  ·rw[xK,if_neg (by rw[hk];decide),if_neg (by omega),e1,if_pos rfl];simp only;rw[e3,List.append_assoc,List.append_assoc];rfl
  ·rw[List.map_append,e2,e4,List.length_append,List.length_singleton];rfl
theorem ztk {rules:List yH}(hq:(zD s q).1=0)(hR:∀ R∈rules,z6v R)(hl:rules.length<=30)(h:aM s 0 (rules.flatMap zj7) q):(zJ s).1=true/\(zJ s).2.2.1=rules/\(zJ s).2.2.2.map zgq=zg8 0 rules:=by
 obtain⟨ms,e1,e2⟩:=zmg hq rules [] [] 0 31 hR (by simpa using hl) (by omega) h;unfold zJ;rw[e1];exact⟨rfl,rfl,e2⟩
end
end Go.Proofs.YtldkpahaocjdpaaGreat
