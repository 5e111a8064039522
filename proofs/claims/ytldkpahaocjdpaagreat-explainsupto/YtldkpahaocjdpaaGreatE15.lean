/-
  Plain: the program's tokens are the reference's: the same kind, the same place, the same end.
-/
import Derived.Laws.Strings
import Derived.Test.YtldkpahaocjdpaaGreatE13
set_option maxHeartbeats 16000000
set_option maxRecDepth 1000000
namespace Go.Proofs.YtldkpahaocjdpaaGreat
section
def zzy (t:Tk):Int:=
 if t.kind=46 then 0 else if t.kind=33 then 1 else if t.kind=110 then 2 else if t.kind=118 then 3 else if t.kind=119 then 4
 else if t.text.toList=[40] then 5 else if t.text.toList=[41] then 6 else if t.text.toList=[44] then 7 else if t.text.toList=[46] then 8 else 9
theorem zpb (s:B8)(k n:Nat)(h:k+n<=s.size):(s.extract k s.size).extract 0 n=s.extract k (k+n):=by
 apply ByteArray.ext;simp[ByteArray.data_extract,Array.extract_extract]
 congr 1
 have:s.data.size=s.size:=rfl;omega
theorem zt6 (s:B8)(k:Nat)(h:k<s.size):(s.extract k (k+1)).toList=[s[k]]:=by
 rw[ByteArray.toList_eq,ByteArray.data_extract,Array.toList_extract];have h1:s.data.toList.length=s.size:=by rw[Array.length_toList];rfl
 rw[List.extract_eq_take_drop];have e:k+1-k=1:=by omega
 rw[e,List.drop_eq_getElem_cons (by omega)];simp[List.take];rfl
theorem z16 (s:B8)(k:Nat)(h:k+1<s.size):(s.extract k (k+2)).toList=[s[k],s[k+1]]:=by
 rw[ByteArray.toList_eq,ByteArray.data_extract,Array.toList_extract];have h1:s.data.toList.length=s.size:=by rw[Array.length_toList];rfl
 rw[List.extract_eq_take_drop];have e:k+2-k=2:=by omega
 rw[e,List.drop_eq_getElem_cons (by omega),List.drop_eq_getElem_cons (by omega)];simp[List.take];exact⟨rfl,rfl⟩
theorem ycl (a c:UInt8):a=c↔(a.toNat:Int)=(c.toNat:Int):=by
 constructor
 ·intro h;rw[h]
 ·intro h;exact UInt8.toNat_inj.1 (by omega)
theorem z8m (s:B8)(k:Nat)(hk:k<s.size):zho (s.extract k s.size) =
  if xA s k=0 then (1,1) else if xA s k=2 then (9,2) else (zzy ⟨115,s.extract k (k+1),k,k+1⟩,1):=by
 have bj:(s.extract k s.size).size=s.size-k:=zda s k;have e1:((s.extract k s.size).extract 0 1).toList=[s[k]]:=by rw[zpb s k 1 (by omega),zt6 s k hk]
 have g1:1<=(s.extract k s.size).size:=by omega
 have t1:=zt6 s k hk;unfold zho zzy;simp only[e1,g1,true_and,t1,List.cons.injEq,and_true];simp only[ycl];unfold xA;rw[dif_pos hk]
 by_cases ee:(s[k].toNat:Int)=58
 ·rw[if_pos ee];have n1:¬ (s[k].toNat:Int)=((40:UInt8).toNat:Int):=by rw[ee];decide
  have n2:¬ (s[k].toNat:Int)=((41:UInt8).toNat:Int):=by rw[ee];decide
  have n3:¬ (s[k].toNat:Int)=((44:UInt8).toNat:Int):=by rw[ee];decide
  have n4:¬ (s[k].toNat:Int)=((46:UInt8).toNat:Int):=by rw[ee];decide
  rw[if_neg n1,if_neg n2,if_neg n3,if_neg n4]
  by_cases h2:k+1<s.size
  ·have e2:((s.extract k s.size).extract 0 2).toList=[s[k],s[k+1]]:=(by rw[zpb s k 2 (by omega),z16 s k h2]);rw[dif_pos h2,e2];have g2:2<=(s.extract k s.size).size:=(by omega);simp only[g2,true_and,List.cons.injEq,and_true,ycl]
   by_cases dU:(s[k+1].toNat:Int)=45
   ·rw[if_pos ⟨by rw[ee];rfl,by rw[dU];rfl⟩,if_pos dU];simp
   ·rw[if_neg (λ h=>dU (by rw[h.2];rfl)),if_neg dU];simp
  ·rw[dif_neg h2,if_neg (by omega)];simp
 ·rw[if_neg ee];have n5:¬ (2<=(s.extract k s.size).size/\((s.extract k s.size).extract 0 2).toList=[58,45]):=by
   rintro⟨g2,h⟩;rw[zpb s k 2 (by omega),z16 s k (by omega)] at h;injection h with h _
   exact ee (by rw[h];rfl)
  rw[if_neg n5]
  by_cases d1:(s[k].toNat:Int)=40
  ·simp[d1]
  ·by_cases d2:(s[k].toNat:Int)=41
   ·simp[d2]
   ·by_cases d3:(s[k].toNat:Int)=44
    ·simp[d3]
    ·by_cases d4:(s[k].toNat:Int)=46
     ·simp[d4]
     ·have m1:¬ (s[k].toNat:Int)=((40:UInt8).toNat:Int):=d1;have m2:¬ (s[k].toNat:Int)=((41:UInt8).toNat:Int):=d2;have m3:¬ (s[k].toNat:Int)=((44:UInt8).toNat:Int):=d3;have m4:¬ (s[k].toNat:Int)=((46:UInt8).toNat:Int):=d4;rw[if_neg m1,if_neg m2,if_neg m3,if_neg m4];simp[d1,d2,d3,d4]
theorem znq (s:B8)(k:Nat):xA s k=0\/xA s k=1\/xA s k=2:=by
 unfold xA
 split
 ·split
  ·split
   ·split <;> simp
   ·simp
  ·split <;> simp
 ·simp
theorem z8j (s:B8)(i:Nat)(hi:i<=s.size):zF s i=(zzy (tok s i),(tok s i).at_,(tok s i).to):=by
 have hk:=zcz zO s i hi;unfold zF tok;generalize skip zO s i=k at *;have bj:(s.extract k s.size).size=s.size-k:=zda s k
 by_cases h0:s.size<=k
 ·have e:k=s.size:=by omega
  rw[zhq,if_pos h0];unfold oi;rw[dif_neg (by omega)];simp[zzy,e]
 ·have aH:k<s.size:=by omega
  have hl:=zmu xL s k hk;have hh:=zmu yF s k hk;have xa:0<(s.extract k s.size).size:=by omega
  have hg:(s.extract k s.size)[0]=s[k]:=by have:=zt5 s k 0 (by omega) xa;simpa using this
  rw[zhq,if_neg h0];unfold oi;rw[dif_pos xa]
  by_cases bc:k<skip xL s k
  ·have oG:xL s[k].toNat=true:=by
    cases hb:xL s[k].toNat with
    | true=>rfl
    | false=>rw[xZ xL s k aH hb] at bc;omega
   have mi:skip xL (s.extract k s.size) 0=skip xL s k-k:=(by omega);have hle:=zcz xL s k hk;have hex:(s.extract k s.size).extract 0 (skip xL s k-k)=s.extract k (skip xL s k):=by
    rw[zpb s k _ (by omega)];congr 1;omega
   rw[if_pos (by rw[hg];exact oG),if_pos bc];unfold zj6;rw[mi,hex]
   by_cases h8:8<skip xL s k-k
   ·have kR:¬ (s.extract k (skip xL s k)).toList=[110,111,116]:=by
     intro e;have:(s.extract k (skip xL s k)).toList.length=3:=by rw[e];rfl
     rw[ByteArray.toList_eq,Array.length_toList] at this;have h2:(s.extract k (skip xL s k)).data.size=(s.extract k (skip xL s k)).size:=rfl;rw[h2,ByteArray.size_extract] at this;omega
    rw[if_pos h8,if_neg kR,if_neg (by omega)];simp[zzy];omega
   ·by_cases hn:(s.extract k (skip xL s k)).toList=[110,111,116]
    ·rw[if_neg h8,if_pos hn,if_pos hn];simp[zzy];omega
    ·rw[if_neg h8,if_neg hn,if_neg hn,if_pos (by omega)];simp[zzy];omega
  ·have oG:xL s[k].toNat=false:=by
    cases hb:xL s[k].toNat with
    | false=>rfl
    | true=>
     have h1:=xY xL s k aH hb;have h2:=zp5 xL s (k+1);omega
   rw[if_neg (by rw[hg,oG];decide),if_neg bc]
   by_cases hhigh:k<skip yF s k
   ·have PZ:yF s[k].toNat=true:=by
     cases hb:yF s[k].toNat with
     | true=>rfl
     | false=>rw[xZ yF s k aH hb] at hhigh;omega
    have mi:skip yF (s.extract k s.size) 0=skip yF s k-k:=(by omega);rw[if_pos (by rw[hg];exact PZ),if_pos hhigh];unfold z56;rw[mi]
    by_cases h8:8<skip yF s k-k
    ·rw[if_pos h8,if_neg (by omega)];simp[zzy];omega
    ·rw[if_neg h8,if_pos (by omega)];simp[zzy];omega
   ·have PZ:yF s[k].toNat=false:=by
     cases hb:yF s[k].toNat with
     | false=>rfl
     | true=>
      have h1:=xY yF s k aH hb;have h2:=zp5 yF s (k+1);omega
    rw[if_neg (by rw[hg,PZ];decide),if_neg hhigh,z8m s k aH];rcases znq s k with h | h | h
    ·rw[if_pos h,if_pos h];simp[zzy]
    ·rw[if_neg (by omega),if_neg (by omega),if_neg (by omega),if_neg (by omega)]
    ·rw[if_neg (by omega),if_pos h,if_neg (by omega),if_pos h];have e:({ data:=#[58,45] }:B8).toList=[58,45]:=(by rw[ByteArray.toList_eq]);simp[zzy,e]
end
section
theorem z5i (s:B8)(i:Nat):(tok s i).kind=46\/(tok s i).kind=33\/((tok s i).kind=110/\(tok s i).text=s.extract (tok s i).at_ (tok s i).to)\/((tok s i).kind=118/\(tok s i).text=s.extract (tok s i).at_ (tok s i).to)\/(tok s i).kind=119 \/
  ((tok s i).kind=115/\((tok s i).text.toList=[40]\/(tok s i).text.toList=[41]\/(tok s i).text.toList=[44]\/(tok s i).text.toList=[46]\/(tok s i).text.toList=[58,45])):=by
 unfold tok;generalize skip zO s i=k;unfold zhq
 by_cases h0:s.size<=k
 ·simp[h0]
 ·rw[if_neg h0]
  by_cases h1:k<skip xL s k
  ·rw[if_pos h1]
   split
   ·simp
   ·split <;> simp
  ·rw[if_neg h1]
   by_cases h2:k<skip yF s k
   ·rw[if_pos h2]
    split <;> simp
   ·rw[if_neg h2]
    by_cases h3:xA s k=0
    ·rw[if_pos h3];simp
    ·rw[if_neg h3]
     by_cases h4:xA s k=2
     ·rw[if_pos h4];have:({ data:=#[58,45] }:B8).toList=[58,45]:=by rw[ByteArray.toList_eq]
      simp[this]
     ·rw[if_neg h4];have hk:k<s.size:=(by omega);have t1:=zt6 s k hk;simp only[t1];have hs:(s[k].toNat:Int)=40\/(s[k].toNat:Int)=41\/(s[k].toNat:Int)=44\/(s[k].toNat:Int)=46:=by
       unfold xA at h3 h4;rw[dif_pos hk] at h3 h4
       by_cases hc:(s[k].toNat:Int)=58
       ·rw[if_pos hc] at h3 h4
        by_cases hd:k+1<s.size
        ·rw[dif_pos hd] at h3 h4
         by_cases he:(s[k+1].toNat:Int)=45
         ·rw[if_pos he] at h4;exact absurd rfl h4
         ·rw[if_neg he] at h3;exact absurd rfl h3
        ·rw[dif_neg hd] at h3;exact absurd rfl h3
       ·rw[if_neg hc] at h3
        by_cases hd:(s[k].toNat:Int)=40\/(s[k].toNat:Int)=41\/(s[k].toNat:Int)=44\/(s[k].toNat:Int)=46
        ·exact hd
        ·rw[if_neg hd] at h3;exact absurd rfl h3
      have u:∀ c:UInt8,(s[k].toNat:Int)=(c.toNat:Int)->s[k]=c:=λ c h=>(ycl _ _).2 h
      rcases hs with h | h | h | h
      ·simp[u 40 h]
      ·simp[u 41 h]
      ·simp[u 44 h]
      ·simp[u 46 h]
structure yaa (s:B8)(p:Nat):Prop where
 k0:(zF s p).1=0↔(tok s p).kind=46
 k2:(zF s p).1=2↔(tok s p).kind=110
 k3:(zF s p).1=3↔(tok s p).kind=118
 k4:(zF s p).1=4↔(tok s p).kind=119
 k5:(zF s p).1=5↔((tok s p).kind=115/\(tok s p).text.toList=[40])
 k6:(zF s p).1=6↔((tok s p).kind=115/\(tok s p).text.toList=[41])
 k7:(zF s p).1=7↔((tok s p).kind=115/\(tok s p).text.toList=[44])
 k8:(zF s p).1=8↔((tok s p).kind=115/\(tok s p).text.toList=[46])
 k9:(zF s p).1=9↔((tok s p).kind=115/\(tok s p).text.toList=[58,45])
 at_:(zF s p).2.1=(tok s p).at_
 sm:(zF s p).2.2=(tok s p).to
 word:(tok s p).kind=110\/(tok s p).kind=118->xQ s p=(tok s p).text
theorem zfh (s:B8)(p:Nat)(hp:p<=s.size):yaa s p:=by
 have h:=z5i s p;have e:=z8j s p hp;have e1:(zF s p).1=zzy (tok s p):=by rw[e]
 have e2:(zF s p).2.1=(tok s p).at_:=by rw[e]
 have e3:(zF s p).2.2=(tok s p).to:=by rw[e]
 have hw:(tok s p).kind=110\/(tok s p).kind=118->xQ s p=(tok s p).text:=by
  intro hk;unfold xQ;rw[e2,e3];rcases h with h | h | h | h | h | h
  ·omega
  ·omega
  ·exact h.2.symm
  ·exact h.2.symm
  ·omega
  ·omega
 refine⟨?_,?_,?_,?_,?_,?_,?_,?_,?_,e2,e3,hw⟩
 all_goals
  rw[e1];unfold zzy;rcases h with h | h | h | h | h | ⟨h,h' | h' | h' | h' | h'⟩
  all_goals first | (simp[h,h'];done) | (simp[h.1];done) | (simp[h];done)
end
section
variable {bd:Int} {p:Nat} {s:B8}
theorem zgh (h:0<=bd):zU s p bd=bd/\zW s p bd=p:=by
 have e:zaw s p bd=bd:=by unfold zaw;rw[if_neg (by omega)]
 have e1:zU s p bd=bd:=by unfold zU;split;exact e;rfl
 exact⟨e1,by unfold zW;rw[e1,if_neg (by omega)]⟩
theorem zv8 (h:0<=bd):zaw s p bd=bd:=by unfold zaw;rw[if_neg (by omega)]
variable {wd:B8}
theorem zfg (h:0<=bd):dZ s p bd wd=false:=by
 unfold dZ;simp;intro h1;omega
theorem zel (h:0<=bd):vF s p bd wd=p/\vO s p bd wd=bd:=by
 unfold vF vO;rw[zfg h];exact⟨rfl,rfl⟩
theorem zwo (h:0<=bd):xM s p bd wd=bd:=by
 unfold xM;rw[zfg h];exact zv8 h
theorem zvp (h:0<=bd):(zH s p bd).2.2=bd:=by
 have e1:z6 s p bd=bd:=by unfold z6;split;exact zv8 h;rfl
 have e2:zaj s p bd=bd:=by unfold zaj;rw[e1];exact (zgh h).1
 unfold zH;rw[e2,zfg h];exact (zel h).2
theorem ybe (h:0<=bd):(yE s p bd).2=bd:=by
 have e1:zj4 s p bd=false:=by unfold zj4;simp;intro h1;omega
 unfold yE vS yW;rw[e1];exact zvp h
theorem zgg (h:bd<0)(h1:(tok s p).kind≠33)(h2:(tok s p).kind≠46):zU s p bd=bd/\zW s p bd=(tok s p).to:=by
 have e1:zU s p bd=bd:=by unfold zU;rw[if_neg (by simp[h1,h2])]
 exact⟨e1,by unfold zW;rw[e1,if_pos h]⟩
theorem zh5 (h:bd<0):zaw s p bd=(tok s p).at_:=by unfold zaw;rw[if_pos h]
theorem zhd (h:bd<0):dZ s p bd wd=true↔((tok s p).kind=115/\(tok s p).text.toList=wd.toList):=by
 unfold dZ;simp[h]
theorem zn5 (h:bd<0)(hn:¬ ((tok s p).kind=115/\(tok s p).text.toList=wd.toList)):dZ s p bd wd=false:=by
 cases e:dZ s p bd wd with
 | false=>rfl
 | true=>exact absurd ((zhd h).1 e) hn
theorem zfe (h:bd<0)(hy:(tok s p).kind=115/\(tok s p).text.toList=wd.toList):vF s p bd wd=(tok s p).to/\vO s p bd wd=bd:=by
 have e:=(zhd (wd:=wd) h).2 hy;have t:=zgg h (by rw[hy.1];decide) (by rw[hy.1];decide);unfold vF vO;rw[e];exact⟨t.2,t.1⟩
theorem zff (h:bd<0)(hn:¬ ((tok s p).kind=115/\(tok s p).text.toList=wd.toList)):vF s p bd wd=p/\vO s p bd wd=bd:=by
 unfold vF vO;rw[zn5 h hn];exact⟨rfl,rfl⟩
theorem zej (c:UInt8):(chr c).toList=[c]:=by
 rw[ByteArray.toList_eq]
def ed (t:xD):Bool × B8:=(t.isVar,t.text)
variable {l:List xD}
theorem zot (f:Nat)(h:bd<0)(hn:¬ ((tok s p).kind=110\/(tok s p).kind=118)\/l.length=4):(qG s (f+1) p bd l).2.2=(tok s p).at_:=by
 have e:zQ s p bd l.length=(tok s p).at_:=by
  unfold zQ;rw[if_pos,zh5 h];rcases hn with hn | hn
  ·simp[not_or.1 hn]
  ·simp[hn]
 have h0:(0:Int)<=(tok s p).at_:=by omega
 rw[qG];simp only[e,(zgh h0).1,(zgh h0).2,zfg h0,(zel h0).1,(zel h0).2,zwo h0];rfl
theorem z8x (f:Nat)(h:bd<0)(hk:(tok s p).kind=110\/(tok s p).kind=118)(hl:l.length≠4)(hc:(tok s (tok s p).to).kind=115/\(tok s (tok s p).to).text.toList=[44]):
  qG s (f+1) p bd l=qG s f (tok s (tok s p).to).to bd (l++[z7 s p]):=by
 have e:zQ s p bd l.length=bd:=by
  unfold zQ;rw[if_neg];rcases hk with hk | hk <;> simp[hk,hl]
 have t:=zgg h (p:=p) (s:=s) (by rcases hk with hk | hk <;> rw[hk] <;> decide) (by rcases hk with hk | hk <;> rw[hk] <;> decide);rw[<-zej] at hc;rw[qG];simp only[e,t.1,t.2,(zfe h hc).1,(zfe h hc).2,(zhd h).2 hc,if_true]
theorem z5d (f:Nat)(h:bd<0)(hk:(tok s p).kind=110\/(tok s p).kind=118)(hl:l.length≠4)(hc:¬ ((tok s (tok s p).to).kind=115/\(tok s (tok s p).to).text.toList=[44])):
  qG s (f+1) p bd l=(l++[z7 s p],zW s (tok s p).to (xM s (tok s p).to bd (chr 41)),zU s (tok s p).to (xM s (tok s p).to bd (chr 41))):=by
 have e:zQ s p bd l.length=bd:=by
  unfold zQ;rw[if_neg];rcases hk with hk | hk <;> simp[hk,hl]
 have t:=zgg h (p:=p) (s:=s) (by rcases hk with hk | hk <;> rw[hk] <;> decide) (by rcases hk with hk | hk <;> rw[hk] <;> decide);rw[<-zej] at hc;rw[qG];simp only[e,t.1,t.2,(zff h hc).1,(zff h hc).2,zn5 h hc];rfl
theorem zgb (h:bd<0)(hy:(tok s p).kind=115/\(tok s p).text.toList=wd.toList):zW s p (xM s p bd wd)=(tok s p).to/\zU s p (xM s p bd wd)=bd:=by
 have t:=zgg h (by rw[hy.1];decide) (by rw[hy.1];decide);unfold xM;rw[(zhd h).2 hy];exact⟨t.2,t.1⟩
theorem zup (h:bd<0)(hn:¬ ((tok s p).kind=115/\(tok s p).text.toList=wd.toList)):zU s p (xM s p bd wd)=(tok s p).at_:=by
 unfold xM;rw[zn5 h hn];simp only[Bool.false_eq_true,if_false,zh5 h];exact (zgh (by omega)).1
theorem zzo {pl:Nat->Nat}{t:xD}(bt:∀ i (h:i<l.length),pl i=(l[i]).at_):∀ i (h:i<(l++[t]).length),fc pl l.length t.at_ i=((l++[t])[i]).at_:=by
 intro i h
 by_cases e:i=l.length
 ·subst e;simp[fc]
 ·have h1:i<l.length:=by simp at h;omega
  rw[List.getElem_append_left h1];simp[fc,e,bt i h1]
theorem z8w (s:B8)(bd:Int)(dh:bd<0):∀ (f p:Nat) (l:List xD) (pl:Nat->Nat),l.length+f=4->p<=s.size->(∀ i (h:i<l.length),pl i=(l[i]).at_) ->
  ((yB s f p (l.map ed) pl).1=true->(qG s (f+1) p bd l).2=((yB s f p (l.map ed) pl).2.1,bd)/\(yB s f p (l.map ed) pl).2.2.1=(qG s (f+1) p bd l).1.map ed/\(∀ i (h:i<(qG s (f+1) p bd l).1.length),(yB s f p (l.map ed) pl).2.2.2 i=((qG s (f+1) p bd l).1[i]).at_)/\(yB s f p (l.map ed) pl).2.1<=s.size) /\
  ((yB s f p (l.map ed) pl).1=false->(qG s (f+1) p bd l).2.2=((zF s (yB s f p (l.map ed) pl).2.1).2.1:Int)):=by
 intro f
 induction f with
 | zero=>
  intro p l pl hl hp _;refine⟨λ h=>by simp[yB] at h,λ _=>?_⟩;rw[zot 0 dh (.inr (by omega))];simp only[yB];rw[(zfh s p hp).at_]
 | succ f ih=>
  intro p l pl hl hp bt;have K:=zfh s p hp;have EG:(tok s p).to<=s.size:=by rw[<-K.sm];exact (xT s p hp).2
  have K2:=zfh s (tok s p).to EG;have Dp:(tok s (tok s p).to).to<=s.size:=by rw[<-K2.sm];exact (xT s _ EG).2
  by_cases hk:(tok s p).kind=110\/(tok s p).kind=118
  ·have lz:(zF s p).1=2\/(zF s p).1=3:=(by rw[K.k2,K.k3];exact hk);have Lz:(l.map ed)++[(decide ((zF s p).1=3),xQ s p)]=(l++[z7 s p]).map ed:=by
    rw[List.map_append];simp only[List.map_cons,List.map_nil,ed,z7];rw[K.word hk];have:decide ((zF s p).1=3)=((tok s p).kind==118):=by
     rw[Bool.eq_iff_iff];simp[K.k3]
    rw[this]
   have QU:∀ i (h:i<(l++[z7 s p]).length),fc pl l.length (zF s p).2.1 i=((l++[z7 s p])[i]).at_:=by
    rw[K.at_];exact zzo (t:=z7 s p) bt
   rw[yB,if_pos lz,K.sm,Lz,List.length_map]
   by_cases hc:(tok s (tok s p).to).kind=115/\(tok s (tok s p).to).text.toList=[44]
   ·rw[if_pos (K2.k7.2 hc),K2.sm,z8x (f+1) dh hk (by omega) hc];exact ih _ _ _ (by simp;omega) Dp QU
   ·rw[if_neg (λ e=>hc (K2.k7.1 e)),z5d (f+1) dh hk (by omega) hc]
    by_cases hs:(tok s (tok s p).to).kind=115/\(tok s (tok s p).to).text.toList=[41]
    ·have hr:yM s (tok s p).to 6=(tok s (tok s p).to).to:=(by unfold yM;rw[K2.k6.2 hs];exact K2.sm);rw[<-zej] at hs;refine⟨λ _=>⟨?_,rfl,QU,by simp only[hr];exact Dp⟩,λ h=>?_⟩
     ·simp only[(zgb dh hs).1,(zgb dh hs).2,hr]
     ·rw[zej] at hs;simp[K2.k6.2 hs] at h
    ·have h6:¬ (zF s (tok s p).to).1=6:=λ e=>hs (K2.k6.1 e)
     have hr:yM s (tok s p).to 6=(tok s p).to:=(by unfold yM;rw[if_neg (by simpa using h6)]);rw[<-zej] at hs;refine⟨λ h=>by simp[h6] at h,λ _=>?_⟩;simp only[zup dh hs,hr];rw[K2.at_]
  ·have lz:¬ ((zF s p).1=2\/(zF s p).1=3):=(by rw[K.k2,K.k3];exact hk);rw[yB,if_neg lz];refine⟨λ h=>by simp at h,λ _=>?_⟩;rw[zot (f+1) dh (.inl hk)];simp only;rw[K.at_]
def zqr (s:B8)(p:Nat)(bd:Int)(r:yd2):Prop:=
 match r with
 | .no q=>(zH s p bd).2.2=((zF s q).2.1:Int)
 | .yes q pd ts pl=>(zH s p bd).2=(q,bd)/\pd=(tok s p).text/\ts=(zH s p bd).1.map ed/\(∀ i (h:i<(zH s p bd).1.length),pl i=((zH s p bd).1[i]).at_)/\q<=s.size
theorem ztu (s:B8)(p:Nat)(bd:Int)(dh:bd<0)(hp:p<=s.size):zqr s p bd (vD s p):=by
 have K:=zfh s p hp;have EG:(tok s p).to<=s.size:=by rw[<-K.sm];exact (xT s p hp).2
 have K2:=zfh s (tok s p).to EG;have Dp:(tok s (tok s p).to).to<=s.size:=by rw[<-K2.sm];exact (xT s _ EG).2
 unfold vD
 by_cases hk:(tok s p).kind=110
 ·rw[if_pos (K.k2.2 hk),K.sm,K.word (.inl hk)];have b1:z6 s p bd=bd:=by unfold z6;simp[hk]
  have t:=zgg dh (p:=p) (s:=s) (by rw[hk];decide) (by rw[hk];decide);have b2:zaj s p bd=bd:=by unfold zaj;rw[b1];exact t.1
  have p2:zc9 s p bd=(tok s p).to:=by unfold zc9;rw[b1];exact t.2
  by_cases ho:(tok s (tok s p).to).kind=115/\(tok s (tok s p).to).text.toList=[40]
  ·rw[if_pos (K2.k5.2 ho),K2.sm];have e:zH s p bd=qG s 5 (tok s (tok s p).to).to bd []:=by
    rw[<-zej] at ho;unfold zH;rw[b2,p2,(zhd dh).2 ho,(zfe dh ho).1,(zfe dh ho).2];rfl
   have T:=z8w s bd dh 4 (tok s (tok s p).to).to [] (λ _=>0) rfl Dp (by simp);rw[List.map_nil] at T
   cases hP:(yB s 4 (tok s (tok s p).to).to [] (λ _=>0)).1 with
   | true=>
    rw[if_pos rfl];obtain⟨t1,t2,t3,t4⟩:=T.1 hP;unfold zqr;simp only[e];exact⟨t1,trivial,t2,t3,t4⟩
   | false=>
    rw[if_neg (by decide)];unfold zqr;simp only[e];exact T.2 hP
  ·rw[if_neg (λ h=>ho (K2.k5.1 h))];have e:zH s p bd=([],(tok s p).to,bd):=by
    rw[<-zej] at ho;unfold zH;rw[b2,p2,zn5 dh ho,(zff dh ho).1,(zff dh ho).2];rfl
   unfold zqr;simp only[e];exact⟨trivial,trivial,by simp,by simp,EG⟩
 ·rw[if_neg (λ h=>hk (K.k2.1 h))];unfold zqr;have b1:z6 s p bd=(tok s p).at_:=by unfold z6;simp[hk,zh5 dh]
  have h0:(0:Int)<=(tok s p).at_:=by omega
  have b2:zaj s p bd=(tok s p).at_:=by unfold zaj;rw[b1];exact (zgh h0).1
  simp only;rw[K.at_];unfold zH;rw[b2,zfg h0];exact (zel (s:=s) (wd:=chr 40) (p:=zc9 s p bd) h0).2
end
section
structure zji (num:Nat)(A:zL)(M:xU):Prop where
 num:M.num=num
 neg:M.neg=A.no
 pd:M.pd=A.pred
 ts:M.ts=A.ae.map ed
 start:A.no=true->M.start=A.az
 place:M.place=A.at_
 pl:∀ i (h:i<A.ae.length),M.pl i=(A.ae[i]).at_
def lP (A:zL):vK:=⟨A.no,A.pred,A.ae.map ed⟩
def yO (R:zS):vY:=⟨R.head.pred,R.head.ae.map ed,R.body.map lP⟩
def oz (num:Nat)(l:List zL)(ms:List xU):Prop:=∃ q:List (zL × xU),q.map (·.1)=l/\q.map (·.2)=ms/\∀ x∈q,zji num x.1 x.2
theorem oz.nil (num:Nat):oz num [] []:=⟨[],rfl,rfl,by simp⟩
variable {M:xU} {A:zL} {ms:List xU} {l:List zL}
theorem oz.snoc {num:Nat}(h:oz num l ms)(hm:zji num A M):oz num (l++[A]) (ms++[M]):=by
 obtain⟨q,h1,h2,h3⟩:=h;refine⟨q++[(A,M)],by simp[h1],by simp[h2],λ x hx=>?_⟩;rcases List.mem_append.1 hx with hx | hx
 ·exact h3 x hx
 ·simp at hx;subst hx;exact hm
theorem oz.cons {num:Nat}(h:oz num l ms)(hm:zji num A M):oz num (A::l) (M::ms):=by
 obtain⟨q,h1,h2,h3⟩:=h;refine⟨(A,M)::q,by simp[h1],by simp[h2],λ x hx=>?_⟩;rcases List.mem_cons.1 hx with hx | hx
 ·subst hx;exact hm
 ·exact h3 x hx
theorem z28 (s:B8)(p:Nat)(bd:Int)(dh:bd<0)(hp:p<=s.size):zj4 s p bd=((zF s p).1==4)/\yW s p bd=yM s p 4/\vS s p bd=bd:=by
 have K:=zfh s p hp;have e:zj4 s p bd=((zF s p).1==4):=by
  unfold zj4;rw[Bool.eq_iff_iff];simp[dh,K.k4]
 by_cases h:(zF s p).1=4
 ·have hk:=K.k4.1 h;have t:=zgg dh (p:=p) (s:=s) (by rw[hk];decide) (by rw[hk];decide);have hb:((zF s p).1==4)=true:=by simpa using h
  refine⟨e,?_,?_⟩
  ·unfold yW yM;rw[e,if_pos hb,if_pos hb,t.2,K.sm]
  ·unfold vS;rw[e,if_pos hb,t.1]
 ·have hb:¬ ((zF s p).1==4)=true:=by simpa using h
  refine⟨e,?_,?_⟩
  ·unfold yW yM;rw[e,if_neg hb,if_neg hb]
  ·unfold vS;rw[e,if_neg hb]
variable {p:Nat} {s:B8}
theorem zsr {k:Int}(h:p<=s.size):yM s p k<=s.size:=by
 unfold yM;split
 ·exact (xT s p h).2
 ·exact h
theorem ydi (s:B8)(num p:Nat)(bd:Int)(dh:bd<0)(hp:p<=s.size):
  match vD s (yM s p 4) with
  | .no q=>(yE s p bd).2=((zF s q).2.1:Int)
  | .yes q pd ts pl=>yE s p bd=(q,bd)/\uH s p pd ts=lP (vB s p bd)/\zji num (vB s p bd) (BS s num p pd ts pl)/\q<=s.size:=by
 obtain⟨f1,f2,f3⟩:=z28 s p bd dh hp;have A:=ztu s (yM s p 4) bd dh (zsr hp);have K:=zfh s p hp;have K2:=zfh s (yM s p 4) (zsr hp);unfold yE vB;rw[f1,f2,f3]
 cases hr:vD s (yM s p 4) with
 | no q=>rw[hr] at A;exact A
 | yes q pd ts pl=>
  rw[hr] at A;obtain⟨a1,a2,a3,a4,a5⟩:=A;refine⟨a1,by simp[uH,lP,a2,a3],⟨rfl,rfl,a2,a3,λ _=>K.at_,K2.at_,a4⟩,a5⟩
theorem zvr (s:B8)(f p:Nat)(bd:Int)(l:List zL):zco s (f+1) p bd l =
  if dZ s (yE s p (zX s p bd l.length)).1 (yE s p (zX s p bd l.length)).2 { data:=#[44] } then
   zco s f (vF s (yE s p (zX s p bd l.length)).1 (yE s p (zX s p bd l.length)).2 { data:=#[44] }) (vO s (yE s p (zX s p bd l.length)).1 (yE s p (zX s p bd l.length)).2 { data:=#[44] }) (l++[vB s p (zX s p bd l.length)])
  else (l++[vB s p (zX s p bd l.length)],vF s (yE s p (zX s p bd l.length)).1 (yE s p (zX s p bd l.length)).2 { data:=#[44] },vO s (yE s p (zX s p bd l.length)).1 (yE s p (zX s p bd l.length)).2 { data:=#[44] }):=by rw[zco]
theorem zvs (s:B8)(f p:Nat)(bd:Int)(l:List zL)(a:Nat)(h:(yE s p (zX s p bd l.length)).2=(a:Int)):(zco s (f+1) p bd l).2.2=(a:Int):=by
 have h0:(0:Int)<=(a:Int):=by omega
 rw[zvr,h,zfg h0,(zel h0).1,(zel h0).2];rfl
theorem zkj {bd:Int}{a:Nat}{wd:B8}(h:bd=(a:Int)):zU s p (xM s p bd wd)=(a:Int):=by
 have h0:(0:Int)<=(a:Int):=by omega
 subst h;rw[zwo h0];exact (zgh h0).1
theorem yar (s:B8)(num:Nat)(bd:Int)(dh:bd<0):∀ (f p:Nat) (l:List zL) (iB ms:List xU),l.length+f=3->p<=s.size->oz num l ms ->
  ((jG s num f p (l.map lP) (iB++ms)).1=true->∃ q ms',(zco s (f+1) p bd l).2=(q,bd)/\(zF s q).1=8/\q<=s.size/\(jG s num f p (l.map lP) (iB++ms)).2.1=(zF s q).2.2/\(jG s num f p (l.map lP) (iB++ms)).2.2.1=(zco s (f+1) p bd l).1.map lP/\(jG s num f p (l.map lP) (iB++ms)).2.2.2=iB++ms'/\oz num (zco s (f+1) p bd l).1 ms') /\
  ((jG s num f p (l.map lP) (iB++ms)).1=false->zU s (zco s (f+1) p bd l).2.1 (xM s (zco s (f+1) p bd l).2.1 (zco s (f+1) p bd l).2.2 { data:=#[46] })=((zF s (jG s num f p (l.map lP) (iB++ms)).2.1).2.1:Int)):=by
 intro f
 induction f with
 | zero=>
  intro p l iB ms hl hp _;have K:=zfh s p hp;refine⟨λ h=>by simp[jG] at h,λ _=>?_⟩;have e:zX s p bd l.length=((tok s p).at_:Int):=by
   unfold zX;have:(l.length==3)=true:=by simp;omega
   rw[if_pos this,zh5 dh]
  have h0:(0:Int)<=((tok s p).at_:Int):=by omega
  have hb:=zvs s 0 p bd l (tok s p).at_ (by rw[e];exact ybe h0);simp only[jG];rw[zkj hb,K.at_]
 | succ f ih=>
  intro p l iB ms hl hp hM;have e:zX s p bd l.length=bd:=by
   unfold zX;have:¬ (l.length==3)=true:=by simp;omega
   rw[if_neg this]
  have L:=ydi s num p bd dh hp;rw[jG]
  cases hr:vD s (yM s p 4) with
  | no q=>
   rw[hr] at L;have hb:=zvs s (f+1) p bd l (zF s q).2.1 (by rw[e];exact L);refine⟨λ h=>by simp at h,λ _=>?_⟩;rw[zkj hb]
  | yes q pd ts pl=>
   rw[hr] at L;obtain⟨l1,l2,l3,l4⟩:=L;have K:=zfh s q l4;have vh:l.map lP++[uH s p pd ts]=(l++[vB s p bd]).map lP:=(by simp[l2]);have nx:iB++ms++[BS s num p pd ts pl]=iB++(ms++[BS s num p pd ts pl]):=(by simp);have Tl:=hM.snoc l3;rw[zvr,e,l1];simp only;rw[vh,nx]
   by_cases hc:(tok s q).kind=115/\(tok s q).text.toList=[44]
   ·have gY:(tok s q).kind=115/\(tok s q).text.toList=({ data:=#[44] }:B8).toList:=⟨hc.1,by rw[hc.2,ByteArray.toList_eq]⟩;rw[if_pos (K.k7.2 hc),K.sm,(zhd dh).2 gY,(zfe dh gY).1,(zfe dh gY).2,if_pos rfl];exact ih _ _ _ _ (by simp;omega) (by rw[<-K.sm];exact (xT s q l4).2) Tl
   ·have gY:¬ ((tok s q).kind=115/\(tok s q).text.toList=({ data:=#[44] }:B8).toList):=λ h=>hc ⟨h.1,by rw[h.2,ByteArray.toList_eq]⟩
    rw[if_neg (λ h=>hc (K.k7.1 h)),zn5 dh gY,(zff dh gY).1,(zff dh gY).2,if_neg (by decide)]
    by_cases hs:(tok s q).kind=115/\(tok s q).text.toList=[46]
    ·have h8:=K.k8.2 hs;have xm:yM s q 8=(zF s q).2.2:=(by unfold yM;rw[if_pos (by simpa using h8)]);refine⟨λ _=>⟨q,ms++[BS s num p pd ts pl],rfl,h8,l4,xm,rfl,rfl,Tl⟩,λ h=>by simp[h8] at h⟩
    ·have h8:¬ (zF s q).1=8:=λ h=>hs (K.k8.1 h)
     have xm:yM s q 8=q:=(by unfold yM;rw[if_neg (by simpa using h8)]);have mh:¬ ((tok s q).kind=115/\(tok s q).text.toList=({ data:=#[46] }:B8).toList):=λ h=>hs ⟨h.1,by rw[h.2,ByteArray.toList_eq]⟩
     refine⟨λ h=>by simp[h8] at h,λ _=>?_⟩;simp only[xm];rw[zup dh mh,K.at_]
theorem yb7 (s:B8)(num p:Nat)(bd:Int)(dh:bd<0)(hp:p<=s.size)(ms:List xU):
  ((vG s num p ms).1=true->∃ ms',zb2 s p bd=(vG s num p ms).2.1/\jK s p bd=bd/\(vG s num p ms).2.1<=s.size/\(vG s num p ms).2.2.1=yO (zas s p bd)/\(vG s num p ms).2.2.2=ms++ms'/\oz num (zas s p bd).atoms ms') /\
  ((vG s num p ms).1=false->jK s p bd=((zF s (vG s num p ms).2.1).2.1:Int)):=by
 have A:=ztu s p bd dh hp;have K:=zfh s p hp;unfold vG
 cases hr:vD s p with
 | no q=>
  rw[hr] at A;have h0:(0:Int)<=((zF s q).2.1:Int):=by omega
  refine⟨λ h=>by simp at h,λ _=>?_⟩;unfold jK jM;rw[show (zH s p bd).2.2=((zF s q).2.1:Int) from A,zfg h0];simp only[Bool.false_eq_true,if_false];exact zkj (zel h0).2
 | yes q pd ts pl=>
  rw[hr] at A;obtain⟨a1,a2,a3,a4,a5⟩:=A;have AG:(zH s p bd).2.1=q:=by rw[a1]
  have AH:(zH s p bd).2.2=bd:=by rw[a1]
  have K2:=zfh s q a5;have hrel:zji num (zI s p bd) (su s num p pd ts pl):=⟨rfl,rfl,a2,a3,λ h=>by simp[zI] at h,K.at_,a4⟩
  by_cases hw:(tok s q).kind=115/\(tok s q).text.toList=[58,45]
  ·have GB:(tok s q).kind=115/\(tok s q).text.toList=({ data:=#[58,45] }:B8).toList:=⟨hw.1,by rw[hw.2,ByteArray.toList_eq]⟩;have h9:=K2.k9.2 hw;have h8:¬ (zF s q).1=8:=(by rw[h9];decide);have eB:jM s p bd=zco s 4 (tok s q).to bd []:=by
    unfold jM;rw[AG,AH,(zhd dh).2 GB,(zfe dh GB).1,(zfe dh GB).2];rfl
   have Di:(tok s q).to<=s.size:=(by rw[<-K2.sm];exact (xT s q a5).2);have B:=yar s num bd dh 3 (tok s q).to [] (ms++[su s num p pd ts pl]) [] rfl Di (oz.nil num);rw[List.map_nil,List.append_nil] at B;simp only[if_neg h8,if_pos h9,K2.sm];refine⟨λ h=>?_,λ h=>?_⟩
   ·obtain⟨r,ms',b1,b2,b3,b4,b5,b6,b7⟩:=B.1 h;have K3:=zfh s r b3;have hs:=K3.k8.1 b2;have mh:(tok s r).kind=115/\(tok s r).text.toList=({ data:=#[46] }:B8).toList:=⟨hs.1,by rw[hs.2,ByteArray.toList_eq]⟩;have e1:(jM s p bd).2.1=r:=(by rw[eB,b1]);have e2:(jM s p bd).2.2=bd:=(by rw[eB,b1]);refine⟨su s num p pd ts pl::ms',?_,?_,?_,?_,?_,?_⟩
    ·unfold zb2;rw[e1,e2,(zgb dh mh).1,b4,K3.sm]
    ·unfold jK;rw[e1,e2,(zgb dh mh).2]
    ·rw[b4];exact (xT s r b3).2
    ·rw[b5,<-eB];simp[yO,zas,zI,a2,a3]
    ·rw[b6];simp
    ·rw[<-eB] at b7;exact oz.cons b7 hrel
   ·unfold jK;rw[eB];exact B.2 h
  ·have GB:¬ ((tok s q).kind=115/\(tok s q).text.toList=({ data:=#[58,45] }:B8).toList):=λ h=>hw ⟨h.1,by rw[h.2,ByteArray.toList_eq]⟩
   have h9:¬ (zF s q).1=9:=λ h=>hw (K2.k9.1 h)
   have eB:jM s p bd=([],q,bd):=by
    unfold jM;rw[AG,AH,zn5 dh GB,(zff dh GB).1,(zff dh GB).2];rfl
   by_cases hs:(tok s q).kind=115/\(tok s q).text.toList=[46]
   ·have mh:(tok s q).kind=115/\(tok s q).text.toList=({ data:=#[46] }:B8).toList:=⟨hs.1,by rw[hs.2,ByteArray.toList_eq]⟩;have h8:=K2.k8.2 hs;simp only[if_pos h8];refine⟨λ _=>⟨[su s num p pd ts pl],?_,?_,(xT s q a5).2,?_,rfl,?_⟩,λ h=>by simp at h⟩
    ·unfold zb2;rw[eB];simp only;rw[(zgb dh mh).1,K2.sm]
    ·unfold jK;rw[eB];simp only;rw[(zgb dh mh).2]
    ·simp[yO,zas,zI,eB,a2,a3]
    ·have:(zas s p bd).atoms=[zI s p bd]:=by simp[zas,zS.atoms,eB]
     rw[this];exact oz.cons (oz.nil num) hrel
   ·have mh:¬ ((tok s q).kind=115/\(tok s q).text.toList=({ data:=#[46] }:B8).toList):=λ h=>hs ⟨h.1,by rw[h.2,ByteArray.toList_eq]⟩
    have h8:¬ (zF s q).1=8:=λ h=>hs (K2.k8.1 h)
    simp only[if_neg h8,if_neg h9];refine⟨λ h=>by simp at h,λ _=>?_⟩;unfold jK;rw[eB];simp only;rw[zup dh mh,K2.at_]
inductive qD:Nat->List zS->List xU->Prop where
 | nil (n:Nat):qD n [] []
 | cons {n:Nat} {R:zS} {rs:List zS} {ms ms':List xU} (h:oz n R.atoms ms) (t:qD (n+1) rs ms'):qD n (R::rs) (ms++ms')
theorem qD.snoc {n:Nat}{rs:List zS}(h:qD n rs ms):∀ {R:zS} {ms':List xU},oz (n+rs.length) R.atoms ms'->qD n (rs++[R]) (ms++ms'):=by
 induction h with
 | nil n=>
  intro R ms' hm;have:=qD.cons (rs:=[]) (ms':=[]) hm (qD.nil _);simpa using this
 | cons h t ih=>
  intro R ms' hm;rw[List.append_assoc,List.cons_append];refine qD.cons h (ih ?_);simpa[Nat.add_comm,Nat.add_left_comm,Nat.add_assoc] using hm
theorem z8g (s:B8)(bd:Int)(dh:bd<0):∀ (f p:Nat) (rs:List zS) (ms:List xU),rs.length+f=30->p<=s.size->qD 0 rs ms ->
  ((jW s (f+1) p (rs.map yO) ms).1=true->(zbz s (f+1) p bd rs).2.2=bd/\(jW s (f+1) p (rs.map yO) ms).2.2.1=(zbz s (f+1) p bd rs).1.map yO/\qD 0 (zbz s (f+1) p bd rs).1 (jW s (f+1) p (rs.map yO) ms).2.2.2) /\
  ((jW s (f+1) p (rs.map yO) ms).1=false->(zbz s (f+1) p bd rs).2.2=((zF s (jW s (f+1) p (rs.map yO) ms).2.1).2.1:Int)):=by
 intro f
 induction f with
 | zero=>
  intro p rs ms hl hp hT;have K:=zfh s p hp;rw[jW,zbz]
  by_cases h0:(zF s p).1=0
  ·have hg:zbu s p bd=false:=(by unfold zbu;simp[K.k0.1 h0]);rw[if_pos h0,hg,if_neg (by decide)];exact⟨λ _=>⟨rfl,rfl,hT⟩,λ h=>by simp at h⟩
  ·have hg:zbu s p bd=true:=(by unfold zbu;simp[dh];exact λ h=>h0 (K.k0.2 h));rw[if_neg h0,if_pos (by simp;omega),hg,if_pos rfl];refine⟨λ h=>by simp at h,λ _=>?_⟩;have e:zE s p bd rs.length=((tok s p).at_:Int):=by
    unfold zE;rw[if_pos (by simp;omega),zh5 dh]
   have xa:(0:Int)<=((tok s p).at_:Int):=(by omega);simp only[zbz,e];unfold jK;have hb:(jM s p ((tok s p).at_:Int)).2.2=((tok s p).at_:Int):=by
    unfold jM;rw[zvp xa,zfg xa,(zel xa).1,(zel xa).2];rfl
   rw[zkj hb,K.at_]
 | succ f ih=>
  intro p rs ms hl hp hT;have K:=zfh s p hp;rw[jW,zbz]
  by_cases h0:(zF s p).1=0
  ·have hg:zbu s p bd=false:=(by unfold zbu;simp[K.k0.1 h0]);rw[if_pos h0,hg,if_neg (by decide)];exact⟨λ _=>⟨rfl,rfl,hT⟩,λ h=>by simp at h⟩
  ·have hg:zbu s p bd=true:=(by unfold zbu;simp[dh];exact λ h=>h0 (K.k0.2 h));have e:zE s p bd rs.length=bd:=(by unfold zE;rw[if_neg (by simp;omega)]);rw[if_neg h0,if_neg (by simp;omega),hg,if_pos rfl,e,List.length_map];have R:=yb7 s rs.length p bd dh hp ms
   cases hr:(vG s rs.length p ms).1 with
   | true=>
    obtain⟨ms',r1,r2,r3,r4,r5,r6⟩:=R.1 hr;rw[if_pos rfl,r1,r2,r4,r5];have e2:rs.map yO++[yO (zas s p bd)]=(rs++[zas s p bd]).map yO:=(by simp);rw[e2];exact ih _ _ _ (by simp;omega) r3 (hT.snoc (by simpa using r6))
   | false=>
    have hb:=R.2 hr;rw[if_neg (by decide)];refine⟨λ h=>by simp at h,λ _=>?_⟩;have xa:zbu s (zb2 s p bd) (jK s p bd)=false:=(by unfold zbu;rw[hb];simp);rw[zsu _ _ _ _ _ xa];exact hb
def yL (s:B8):Bool × Nat × List vY × List xU:=jW s 31 0 [] []
theorem zig (s:B8):
  ((yL s).1=true->(yG s).2.2=-1/\(yL s).2.2.1=(yG s).1.map yO/\qD 0 (yG s).1 (yL s).2.2.2) /\
  ((yL s).1=false->(yG s).2.2=((zF s (yL s).2.1).2.1:Int)):=
 z8g s (-1) (by decide) 30 0 [] [] rfl (Nat.zero_le _) (qD.nil 0)
end
section
open Go.RowKit
structure PR where
 R:vY
 hv:Value
 bs:List (vK × Value)
 bv:Value
def PR.cells (r:PR):V8:=[.string r.R.pd,r.hv,r.bv]
def zmk (rs:List PR):V8:=rs.flatMap PR.cells
theorem zsl (rs:List PR)(r:PR):zmk (rs++[r])=zmk rs++r.cells:=by simp[zmk]
structure uh (w:W8)(base:Nat)(r:PR):Prop where
 hd:w.ownsRow base 191 1 r.hv r.R.ts.length (xH r.R.ts)
 bo:iL w base r.bv r.bs
 eq:r.bs.map (·.1)=r.R.body
structure iq (w:W8)(base:Nat)(rv:Value)(rs:List PR):Prop where
 row:w.ownsRow base 123 3 rv rs.length (zmk rs)
 each:∀ r∈rs,uh w base r
theorem uh.bu {B:List Nat}{w w':W8}{base:Nat}{r:PR}(h:uh w base r)(k:zK B w w')(hB:∀ x∈B,x<base\/(dW w 183 x/\dW w 191 x)):uh w' base r:=
 ⟨xF h.hd k (λ x hx=>(hB x hx).imp id And.right),h.bo.bu k hB,h.eq⟩
variable {r:PR} {base base':Nat} {w:W8}
theorem uh.low (h:uh w base r)(hb:base'<=base):uh w base' r:=⟨zG h.hd hb,h.bo.low hb,h.eq⟩
theorem iq.bu {B:List Nat}{w w':W8}{base:Nat}{rv:Value}{rs:List PR}(h:iq w base rv rs)(k:zK B w w')(hB:∀ x∈B,x<base\/(dW w 123 x/\dW w 183 x/\dW w 191 x)):iq w' base rv rs:=
 ⟨xF h.row k (λ x hx=>(hB x hx).imp id And.left),λ r hr=>(h.each r hr).bu k (λ x hx=>(hB x hx).imp id And.right)⟩
variable {rs:List PR} {rv:Value}
theorem iq.low (h:iq w base rv rs)(hb:base'<=base):iq w base' rv rs:=⟨zG h.row hb,λ r hr=>(h.each r hr).low hb⟩
variable {ms:List (xU × Value)} {mv:Value}
theorem ey.low (h:ey w base mv ms)(hb:base'<=base):ey w base' mv ms:=⟨zG h.row hb,λ r hr=>zG (h.each r hr) hb⟩
structure BL (w:W8)(b:Nat)(s:B8)(rs:List PR)(p num:Nat)(ms:List (xU × Value))(mv rv:Value)(wr:W8):Prop where
 dx:dT wr b s p num mv
 hp:p<=s.size
 eK:ey wr (b+1) mv ms
 rules:iq wr (b+1) rv rs
 res:wr.heap[w.heap.size]?=some (.cells #[.slice none 0 0,.slice none 0 0] 100 (0,0))
 below:Below w.heap.size w wr
 bw:w.heap.size<b
variable {wr w1:W8} {n:Nat}
theorem zY {B:List Nat}(h:Below n w wr)(k:zK B wr w1)(hn:n<=wr.heap.size)(hB:∀ x∈B,n<=x):Below n w w1:=
 h.trans ⟨k.os,k.tape,k.output,k.size,λ i hi=>k.block i (Nat.lt_of_lt_of_le hi hn) (λ hm=>by have:=hB i hm;omega)⟩
variable {p b:Nat} {s:B8}
theorem BL.num {num:Nat}(h:BL w b s rs p num ms mv rv wr)(k:Nat):BL w b s rs p k ms mv rv (wr.setCell ⟨b,4,none⟩ (.int .i64 k)):=by
 have hb:=h.bw;have kk:zK [b] wr (wr.setCell ⟨b,4,none⟩ (.int .i64 k)):=(zK.refl [b] wr).setCell (by simp) _;obtain⟨q,c0,c1,c2,c3,c4,c5,fz⟩:=h.dx;refine⟨⟨by simpa using q,?_,?_,?_,?_,qT c4,?_,λ o=>by simpa using fz o⟩,h.hp,h.eK.kept kk (by simp),h.rules.bu kk (by simp),yK h.res kk (by simp;omega),zY h.below kk (by omega) (by simp;omega),hb⟩
 all_goals (rw[yC (by omega)];assumption)
theorem BL.bJ {num p':Nat}{ms':List (xU × Value)}{kq:Value}(h:BL w b s rs p num ms mv rv wr)(k:zK (b::mv.ownBlock.toList) wr w1)(hr:dT w1 b s p' num kq)(hp:p'<=s.size)(hm:ey w1 (b+1) kq ms'):BL w b s rs p' num ms' kq rv w1:=by
 have hb:=h.bw;have hz:=h.dx.lt;have hB:∀ x∈(b::mv.ownBlock.toList),x=b\/(b+1<=x/\dW wr 123 x/\dW wr 183 x/\dW wr 191 x/\dW wr 100 x):=λ x hx=>by
  rcases List.mem_cons.1 hx with rfl | hx
  ·exact .inl rfl
  ·exact .inr ⟨(h.eK.row.lt x (by simpa using hx)).1,yH h.eK.row (by decide) x hx,yH h.eK.row (by decide) x hx,yH h.eK.row (by decide) x hx,yH h.eK.row (by decide) x hx⟩
 refine⟨hr,hp,hm,h.rules.bu k (λ x hx=>?_),yK h.res k (λ x hx=>?_),zY h.below k (by omega) (λ x hx=>?_),hb⟩
 ·rcases hB x hx with rfl | h1
  ·exact .inl (by omega)
  ·exact .inr ⟨h1.2.1,h1.2.2.1,h1.2.2.2.1⟩
 ·rcases hB x hx with rfl | h1
  ·exact .inl (by omega)
  ·exact .inr h1.2.2.2.2
 ·rcases hB x hx with rfl | h1 <;> omega
theorem BL.append {num:Nat}{W w5:W8}(h:BL w b s rs p num ms mv rv w1)(kW:zK [] w1 W){U9:Value}(hr:uh w1 (b+1) r)
  (ay:w5.ownsRow (b+1) 123 3 U9 (rs.length+1) (zmk rs++r.cells)) (hg:W.grownBy w5 rv.ownBlock):BL w b s (rs++[r]) p num ms mv U9 w5:=by
 have hb:=h.bw;have hz:=h.dx.lt;have k5:zK rv.ownBlock.toList w1 w5:=((kW.mono (C:=rv.ownBlock.toList) (by simp))).grown hg (λ k e=>.inr (by simp[e]));have aB:∀ x∈rv.ownBlock.toList,b+1<=x:=λ x hx=>(h.rules.row.lt x (by simpa using hx)).1
 have eI:∀ x∈rv.ownBlock.toList,∀ e,123≠e->dW w1 e x:=λ x hx e he=>yH h.rules.row he x hx
 refine⟨h.dx.kept k5 (λ hm=>by have:=aB b hm;omega),h.hp,h.eK.bu k5 (λ x hx=>.inr ⟨eI x hx _ (by decide),eI x hx _ (by decide)⟩),⟨?_,λ y hy=>?_⟩,yK h.res k5 (λ x hx=>.inr (eI x hx _ (by decide))),zY h.below k5 (by omega) (λ x hx=>by have:=aB x hx;omega),hb⟩
 ·rw[zsl,List.length_append];exact ay
 ·rcases List.mem_append.1 hy with hy | hy
  ·exact (h.rules.each y hy).bu k5 (λ x hx=>.inr ⟨eI x hx _ (by decide),eI x hx _ (by decide)⟩)
  ·simp at hy;subst hy;exact hr.bu k5 (λ x hx=>.inr ⟨eI x hx _ (by decide),eI x hx _ (by decide)⟩)
def z01 (w:W8)(s:B8)(P:Bool × Nat × List vY × List xU)(e:Ending)(w':W8):Prop:=
 Below w.heap.size w w'/\(P.1=false->e=.returned (.tuple #[.agg #[.slice none 0 0,.slice none 0 0],.int .i64 (zF s P.2.1).2.1,.bool false])) /\
 (P.1=true->∃ (a:O8) (n c:Nat) (a':O8) (n' c':Nat) (rs:List PR) (ms:List (xU × Value)),e=.returned (.tuple #[.agg #[.slice a n c,.slice a' n' c'],.int .i64 0,.bool true])/\iq w' w.heap.size (.slice a n c) rs/\rs.map (·.R)=P.2.2.1/\ey w' w.heap.size (.slice a' n' c') ms/\ms.map (·.1)=P.2.2.2/\rs.length<=30/\ms.length<=120)
theorem zrl:(Tryz.prog.info? 123).map (λ i=>(i.zero,i.size,i.bytes))=some (some (.agg #[.string { data:=#[] },.slice none 0 0,.slice none 0 0]),3,64):=by kernel_rfl
theorem z4j (w1:W8)(o:Obj)(r:PR)(j:Nat)(u:Value)(h:r.cells[j]?=some u):((w1.alloc o).alloc (Obj.cells #[.string r.R.pd,r.hv,r.bv] 123)).cell? ((⟨w1.heap.size+1,0,none⟩:Addr).add j)=some u:=by
 have e:(⟨w1.heap.size+1,0,none⟩:Addr).add j=⟨w1.heap.size+1,j,none⟩:=by unfold Addr.add;split <;> simp_all
 rw[e,World.cell?_alloc_at _ _ _ _ (by simp)];simpa[PR.cells] using h
theorem z9z (R:vY)(a:O8)(n c:Nat)(a':O8)(n' c':Nat)(bs:List (vK × Value)):∀ u∈(PR.mk R (.slice a n c) bs (.slice a' n' c')).cells,u.oneCell'=true:=by
 intro u hu;simp[PR.cells] at hu;rcases hu with rfl | rfl | rfl <;> rfl
theorem yb4 (aL:Below (w.alloc (Obj.cells #[.slice none 0 0,.slice none 0 0] 100)).heap.size (w.alloc (Obj.cells #[.slice none 0 0,.slice none 0 0] 100)) w1):
  BL w w1.heap.size s [] 0 0 [] (.slice none 0 0) (.slice none 0 0) (w1.alloc (Obj.cells #[.string s,.int .i64 (zF s 0).1,.int .i64 (zF s 0).2.1,.int .i64 (zF s 0).2.2,.int .i64 0,.slice none 0 0] 163)):=by
 have hz:=aL.size;simp at hz;refine⟨⟨by simp,?_,?_,?_,?_,?_,?_,?_⟩,Nat.zero_le _,⟨World.ownsRow_nil _ _ _ _,by simp⟩,⟨World.ownsRow_nil _ _ _ _,by simp⟩,?_,?_,by omega⟩
 all_goals first | (rw[World.cell?_alloc_at _ _ _ _ rfl];rfl) | (intro o;rw[World.frozen?_alloc_at _ _ _ _ rfl];done) | skip
 ·rw[Below.heap_alloc _ _ _ (by omega),aL.block _ (by simp)];exact heap_alloc_new w _
 ·exact ((B9.alloc L9 _).trans (aL.mono (by simp))).alloc (by omega) _
theorem zj8 {u0 u1:Value}(h0:w1.cell? ⟨n,0,none⟩=some u0)(h1:w1.cell? ⟨n,1,none⟩=some u1)(v0 v1:Value):((w1.setCell ⟨n,0,none⟩ v0).setCell ⟨n,1,none⟩ v1).cell? ⟨n,0,none⟩=some v0/\((w1.setCell ⟨n,0,none⟩ v0).setCell ⟨n,1,none⟩ v1).cell? ⟨n,1,none⟩=some v1:=
 ⟨by rw[yC (by omega)];exact qT h0,qT (by rw[yC (by omega)];exact h1)⟩
theorem zuu (s:B8)(p:Nat)(rs:List vY)(ms:List xU)(h:rs.length<=30):jW s (31-rs.length) p rs ms =
  if (zF s p).1=0 then (true,p,rs,ms)
  else if rs.length=30 then (false,p,rs,ms)
  else if (vG s rs.length p ms).1 then jW s (31-(rs.length+1)) (vG s rs.length p ms).2.1 (rs++[(vG s rs.length p ms).2.2.1]) (vG s rs.length p ms).2.2.2
  else (false,(vG s rs.length p ms).2.1,rs,(vG s rs.length p ms).2.2.2):=by
 have e:31-rs.length=(31-(rs.length+1))+1:=by omega
 rw[e,jW]
theorem zy8 (w:W8)(s:B8)(hs:s.size<=2000000):
  Calls Tryz.prog 45 #[.string s] w (z01 w s (yL s)):=by
 have bM:s.size<=maxLen:=by unfold maxLen;omega
 obtain⟨i0,hi,bL,aY,bg⟩:=info_parts zrl;go_enter Tryz.func45,Tryz.ntmps45;go_wp2_with fail;refine (zmt s 0 (Nat.zero_le _) bM _).mono ?_;rintro e w1 ⟨rfl,aL⟩;have aP:=yb4 (s:=s) aL;clear aL;go_wp2_with fail
 go_loopg [6] 32 (λ g rv wr=>∃ (rs:List PR) (ms:List (xU × Value)) (p num:Nat) (mv:Value),rs.length<=30/\31-rs.length<=g/\ms.length<=4*rs.length/\BL w w1.heap.size s rs p num ms mv rv wr/\yL s=jW s (31-rs.length) p (rs.map (·.R)) (ms.map (·.1)))
 exact⟨[],[],0,0,_,by simp,by simp,by simp,aP,rfl⟩
 case round=>
  clear aP;obtain⟨rs,ms,p,num,mv,hl,hg,bh,hinv,aE⟩:=hrel;obtain⟨a1,ei,rfl⟩:=zD hinv.rules.row;obtain⟨a2,lX,rfl⟩:=zD hinv.eK.row;have aP:=zuu s p (rs.map (·.R)) (ms.map (·.1)) (by simpa using hl);rw[List.length_map] at aP;have HF:=zC (aE.trans aP);clear aE aP;have bt:=hinv.hp;obtain⟨aH,c0,c1,c2,c3,c4,c5,fz⟩:=hinv.dx;have eo:=hinv.bw;obtain⟨r0,f0⟩:=zB hinv.res 0;obtain⟨r1,f1⟩:=zB hinv.res 1;have HI:=zC hinv;clear hinv
  by_cases h0:(zF s p).1=0
  ·have Pf:((zF s p).1 != 0)=false:=(by simp[h0]);have fw:=zC ((zA HF).trans (if_pos h0));have HE:=zC h0;clear HF h0;go_wp2_with fail;obtain⟨q0,q1⟩:=zj8 r0 r1 (.slice a1 rs.length ei) (.slice a2 ms.length lX);refine bodyPost_ret (v:=.tuple #[.agg #[.slice a1 rs.length ei,.slice a2 ms.length lX],.int .i64 0,.bool true]) (by simp[results,Tryz.results45,go_sem,q0,q1]) rfl ?_;have kk:=zby wr w.heap.size (.slice a1 rs.length ei) (.slice a2 ms.length lX);have i:=zA HI;have oJ:∀ e,100≠e->dW wr e w.heap.size:=λ e he=>zds i.res he
   rw[zA fw];refine⟨zY i.below kk (by omega) (by simp),λ e=>(by cases e),λ _=>⟨_,_,_,_,_,_,rs,ms,rfl,(i.rules.low (by omega)).bu kk (λ x hx=>?_),rfl,(i.eK.low (by omega)).bu kk (λ x hx=>?_),rfl,hl,by omega⟩⟩
   ·simp at hx;subst hx;exact .inr ⟨oJ _ (by decide),oJ _ (by decide),oJ _ (by decide)⟩
   ·simp at hx;subst hx;exact .inr ⟨oJ _ (by decide),oJ _ (by decide)⟩
  ·have Pf:((zF s p).1 != 0)=true:=(by simp[h0]);have fw:=zC ((zA HF).trans (if_neg h0));have HE:=zC h0;clear HF h0
   by_cases h30:rs.length=30
   ·have Ph:((rs.length:Int)==30)=true:=(by simp;omega);have aC:=zC ((zA fw).trans (if_pos h30));clear fw h30;go_wp2_with fail
    go_region
    all_goals
     go_wp2_with fail;obtain⟨q0,q1⟩:=zj8 r0 r1 (.slice none 0 0) (.slice none 0 0);refine bodyPost_ret (v:=.tuple #[.agg #[.slice none 0 0,.slice none 0 0],.int .i64 (zF s p).2.1,.bool false]) (by simp[results,Tryz.results45,go_sem,q0,q1]) rfl ?_;rw[zA aC];refine⟨zY (zA HI).below ((zby wr w.heap.size (.slice none 0 0) (.slice none 0 0)).drew) (by omega) (by simp),λ _=>rfl,λ e=>(by cases e)⟩
   ·have Ph:((rs.length:Int)==30)=false:=(by simp;omega);have aC:=zC ((zA fw).trans (if_neg h30));have nH:rs.length<30:=(by omega);have HQ:=zC ((zA HI).num rs.length);clear fw h30;go_wp2_with fail;refine (z4k _ w1.heap.size s p rs.length _ ms (zA HQ).dx (zA HQ).eK (by omega) bt hs).mono ?_;rintro e w2 ⟨x,a,n,c,a',n',c',kq,rfl,bn,ik,Kk,AY⟩;clear c0 c1 c2 c3 c4 c5 fz r0 r1 f0 f1;have oP:=bn.size;rw[World.size_setCell] at oP
    cases hP:(vG s rs.length p (ms.map (·.1))).1 with
    | false=>
     have aO:=zC ((zA aC).trans (if_neg (by rw[hP];decide)))
     have Di:w2.heap[w.heap.size]?=some (.cells #[.slice none 0 0,.slice none 0 0] 100 (0,0)):=yK (zA HQ).res bn (λ x hx=>by
      rcases List.mem_cons.1 hx with rfl | hx
      ·exact .inl (by omega)
      ·exact .inr (yH (zA HQ).eK.row (by decide) x hx))
     have dp:Below w.heap.size w w2:=zY (zA HQ).below bn (by simp;omega) (λ x hx=>by
      rcases List.mem_cons.1 hx with rfl | hx
      ·omega
      ·have:=((zA HQ).eK.row.lt x (by simpa using hx)).1;omega)
     have ka:=(zK.refl [] w2).alloc (Obj.cells #[.string x,.slice a n c,.slice a' n' c'] 123);obtain⟨aH,c0,c1,c2,c3,c4,c5,fz⟩:=ik.kept ka (by simp);obtain⟨r0,f0⟩:=zB (yK Di ka (by simp)) 0;obtain⟨r1,f1⟩:=zB (yK Di ka (by simp)) 1;have HB:=zC dp;clear AY Kk bn ik aC hP HQ HI Di ka dp;go_wp2_with fail
     go_region
     all_goals
      go_wp2_with fail;obtain⟨q0,q1⟩:=zj8 r0 r1 (.slice none 0 0) (.slice none 0 0);refine bodyPost_ret (v:=.tuple #[.agg #[.slice none 0 0,.slice none 0 0],.int .i64 (zF s (vG s rs.length p (ms.map (·.1))).2.1).2.1,.bool false]) (by simp[results,Tryz.results45,go_sem,q0,q1]) rfl ?_;rw[zA aO];refine⟨zY ((zA HB).alloc (by omega) _) ((zby _ w.heap.size (.slice none 0 0) (.slice none 0 0)).drew) (by simp;omega) (by simp),λ _=>rfl,λ e=>(by cases e)⟩
    | true=>
     have aO:=zC ((zA aC).trans (if_pos hP));obtain⟨bs,ms',rfl,dD,K5,Yp,mA,lh,qm,XE,eZ⟩:=AY hP;have Pw:=(zA HQ).bJ bn ik eZ dD;have ax:uh w2 (w1.heap.size+1) ⟨(vG s rs.length p (ms.map (·.1))).2.2.1,.slice a n c,bs,.slice a' n' c'⟩:=⟨zG mA (by simp;omega),lh.low (by simp;omega),qm⟩;have bH:=Pw.rules.row;have Su:=zC Pw;have bT:=zC ax;have Wf:=zC K5;clear AY Kk bn ik dD mA lh qm Pw ax aC hP HQ HI K5;go_wp2_with (at_builtin;refine wpList_append_own _ rfl _ _ 75 rfl (w1.heap.size+1) 123 i0 _ 3 64 Tryz.underlying75 hi bL aY bg rfl (by decide) _ _ _ rfl ((bH.alloc _).alloc _) ⟨w2.heap.size+1,0,none⟩ 1 1 (PR.mk (vG s rs.length p (ms.map (·.1))).2.2.1 (.slice a n c) bs (.slice a' n' c')).cells rfl rfl (z4j w2 _ (PR.mk (vG s rs.length p (ms.map (·.1))).2.2.1 (.slice a n c) bs (.slice a' n' c'))) (z9z _ _ _ _ _ _ _ _) (by unfold maxLen;omega) (by omega) (by simp;omega) ?_);intro v5 w5 aq aU hne5;clear hne5;obtain⟨a5,eH,rfl⟩:=zD aq;have Tv:=(zA Su).append (((zK.refl [] w2).alloc _).alloc _) (zA bT) aq aU;have Wx:=zC Tv;clear aq aU bH Tv Su bT;go_wp2_with fail;go_roundg (31-(rs.length+1));exact⟨_,ms',_,_,_,by simp;omega,by simp,by simp;omega,zA Wx,by rw[zA aO,zA Wf];simp⟩;omega
end
end Go.Proofs.YtldkpahaocjdpaaGreat
