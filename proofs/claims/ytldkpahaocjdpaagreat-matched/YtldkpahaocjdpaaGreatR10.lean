/-
  Plain: a square table of marks, as the reference's hangs makes it in memory: a row of slices, and behind it, block by block, the rows.
-/
import Derived.Test.YtldkpahaocjdpaaGreatR09
set_option maxHeartbeats 16000000
set_option maxRecDepth 1000000
namespace Go.Proofs.YtldkpahaocjdpaaGreat
section
open Go.RowKit
def upd (M:Nat->Nat->Bool)(i j:Nat):Nat->Nat->Bool:=λ a b=>(decide (a=i)&&decide (b=j))||M a b
theorem z7r:(Tryz.prog.info? 4).map (λ i=>(i.zero,i.size,i.bytes))=some (some (.bool false),1,1):=by kernel_rfl
theorem z2w:(Tryz.prog.info? 143).map (λ i=>(i.zero,i.size,i.bytes))=some (some (.slice none 0 0),1,24):=by kernel_rfl
theorem yei (n:Nat)(hn:n<=1000)(u:W8):(Instr.makeSlice 314 (.int .i64 n) (.int .i64 n)).run Tryz.prog u=.ok (.slice (some ⟨u.heap.size,0,none⟩) n n) (u.alloc (.cells (madeCells #[.slice none 0 0] n) 143)):=by
 obtain⟨i0,hi,dK,aj,bZ⟩:=info_parts z2w;have h:=run_make (P:=Tryz.prog) u 314 143 i0 (.slice none 0 0) Tryz.underlying314 hi dK .i64 .i64 (n:Int) (n:Int) (by omega) (Int.le_refl _) (by rw[bZ];omega) (by omega);simpa[aj,Value.cells] using h
theorem z7y (n:Nat)(hn:n<=1000)(u:W8):(Instr.makeSlice 143 (.int .i64 n) (.int .i64 n)).run Tryz.prog u=.ok (.slice (some ⟨u.heap.size,0,none⟩) n n) (u.alloc (.cells (madeCells #[.bool false] n) 4)):=by
 obtain⟨i0,hi,dK,aj,bZ⟩:=info_parts z7r;have h:=run_make (P:=Tryz.prog) u 143 4 i0 (.bool false) Tryz.underlying143 hi dK .i64 .i64 (n:Int) (n:Int) (by omega) (Int.le_refl _) (by rw[bZ];omega) (by omega);simpa[aj,Value.cells] using h
theorem z7x (z:Value)(n i:Nat)(h:i<n):(madeCells #[z] n)[i]?=some z:=by
 have:=toList_madeCells_one z n;rw[<-Array.getElem?_toList,this,List.getElem?_replicate,if_pos h]
end
section
open Go.RowKit
def zcw (ps:P9)(nm:B8):Nat:=(xL ps nm).toNat
def zsg (ps:P9)(h:Nat):List yX->(Nat->Nat->Bool)->(Nat->Nat->Bool)
 | [],M=>M
 | A::r,M=>zsg ps h r (upd M h (zcw ps A.pred))
def zu8 (ps:P9):List yT->(Nat->Nat->Bool)->(Nat->Nat->Bool)
 | [],M=>M
 | R::r,M=>zu8 ps r (zsg ps (zcw ps R.head.pred) R.body M)
def fwK (n m i:Nat)(M:Nat->Nat->Bool)(k:Nat):Nat->Nat->Bool:=
 if k<n then fwK n m i (if M i m&&M m k then upd M i k else M) (k+1) else M
termination_by n-k
def fwI (n m:Nat)(M:Nat->Nat->Bool)(i:Nat):Nat->Nat->Bool:=
 if i<n then fwI n m (fwK n m i M 0) (i+1) else M
termination_by n-i
def fwM (n:Nat)(M:Nat->Nat->Bool)(m:Nat):Nat->Nat->Bool:=
 if m<n then fwM n (fwI n m M 0) (m+1) else M
termination_by n-m
variable {k n m i:Nat} {M:Nat->Nat->Bool}
theorem yea (h:k<n):fwK n m i M k=fwK n m i (if M i m&&M m k then upd M i k else M) (k+1):=by rw[fwK,if_pos h]
theorem ybx (h:¬ k<n):fwK n m i M k=M:=by rw[fwK,if_neg h]
theorem yd8 (h:i<n):fwI n m M i=fwI n m (fwK n m i M 0) (i+1):=by rw[fwI,if_pos h]
theorem ybw (h:¬ i<n):fwI n m M i=M:=by rw[fwI,if_neg h]
theorem yaf (h:m<n):fwM n M m=fwM n (fwI n m M 0) (m+1):=by rw[fwM,if_pos h]
theorem z2r (h:¬ m<n):fwM n M m=M:=by rw[fwM,if_neg h]
def qX (ps:P9)(rs:List yT):Nat->Nat->Bool:=fwM ps.length (zu8 ps rs (λ _ _=>false)) 0
def zus (ps:P9)(l:List yX):Prop:=∀ A∈l,0<=xL ps A.pred
end
section
open Go.RowKit
def zy6 (ps:P9)(H:Nat->Nat->Bool)(hd:B8)(A:yX):Bool:=A.no&&(xL ps A.pred==xL ps hd||H (zcw ps A.pred) (zcw ps hd))
def ze0 (ps:P9)(H:Nat->Nat->Bool)(hd:B8):List yX->Int
 | []=>-1
 | A::r=>if zy6 ps H hd A then A.lS else ze0 ps H hd r
def zek (ps:P9)(H:Nat->Nat->Bool):List yT->Int
 | []=>-1
 | R::r=>if 0<=ze0 ps H R.head.pred R.body then ze0 ps H R.head.pred R.body else zek ps H r
end
section
open Go.RowKit
def ydq (ps:P9)(f:Nat->Nat)(hd:B8)(A:yX):Prop:=f (zcw ps A.pred)+(if A.no then 1 else 0)<=f (zcw ps hd)
def ydx (ps:P9)(rs:List yT)(f:Nat->Nat):Prop:=∀ R∈rs,∀ A∈R.body,ydq ps f R.head.pred A
def gq (S:Nat->Nat)(i v:Nat):Nat->Nat:=λ a=>if a=i then v else S a
theorem zlr (n:Nat)(hn:n<=1000)(u:W8):(Instr.makeSlice 24 (.int .i64 n) (.int .i64 n)).run Tryz.prog u=.ok (.slice (some ⟨u.heap.size,0,none⟩) n n) (u.alloc (.cells (madeCells #[.int .i64 0] n) 3)):=by
 obtain⟨i0,hi,dK,aj,bZ⟩:=info_parts z2x;have h:=run_make (P:=Tryz.prog) u 24 3 i0 (.int .i64 0) Tryz.underlying24 hi dK .i64 .i64 (n:Int) (n:Int) (by omega) (Int.le_refl _) (by rw[bZ];omega) (by omega);simpa[aj,Value.cells] using h
end
section
open Go.RowKit
def zeb (s:B8)(p:Nat)(bd:Int)(n:Nat):Int:=if n==30 then zkd s p bd else bd
def zie (s:B8)(p:Nat)(bd:Int):yT:=⟨Lh s p bd,(zbi s p bd).1⟩
def zel (s:B8)(p:Nat)(bd:Int):Bool:=(tok s p).kind != 46&&decide (bd<0)
def zdj (s:B8):Nat->Nat->Int->List yT->List yT × Nat × Int
 | 0,p,bd,l=>(l,p,bd)
 | f+1,p,bd,l=>if zel s p bd then zdj s f (zml s p (zeb s p bd l.length)) (zct s p (zeb s p bd l.length)) (l++[zie s p (zeb s p bd l.length)]) else (l,p,bd)
theorem z48 (s:B8)(f p:Nat)(bd:Int)(l:List yT)(hg:zel s p bd=false):zdj s f p bd l=(l,p,bd):=by
 cases f with
 | zero=>rfl
 | succ f=>rw[zdj,if_neg (by rw[hg];decide)]
def vD (s:B8):List yT × Nat × Int:=zdj s 31 0 (-1) []
def zF (s:B8):Int × P9:=zaw ((vD s).1.flatMap yT.atoms) []
def z7 (s:B8):Bool × Int × Int:=
 if 800<s.size then (false,1,0)
 else if 0<=(vD s).2.2 then (false,2,(vD s).2.2)
 else if 0<=(zF s).1 then (false,3,(zF s).1)
 else if 0<=zbh (vD s).1 then (false,4,zbh (vD s).1)
 else if 0<=zek (zF s).2 (qX (zF s).2 (vD s).1) (vD s).1 then (false,5,zek (zF s).2 (qX (zF s).2 (vD s).1) (vD s).1)
 else (true,0,0)
end
section
theorem z52 (s:B8)(i:Nat):(tok s i).kind=46\/(tok s i).kind=33\/((tok s i).kind=110/\(tok s i).text=s.extract (tok s i).at_ (tok s i).to)\/((tok s i).kind=118/\(tok s i).text=s.extract (tok s i).at_ (tok s i).to)\/(tok s i).kind=119 \/
  ((tok s i).kind=115/\((tok s i).text.toList=[40]\/(tok s i).text.toList=[41]\/(tok s i).text.toList=[44]\/(tok s i).text.toList=[46]\/(tok s i).text.toList=[58,45])):=by
 unfold tok;generalize skip yG s i=k;unfold z05
 by_cases h0:s.size<=k
 ·simp[h0]
 ·rw[if_neg h0]
  by_cases h1:k<skip jD s k
  ·rw[if_pos h1]
   split
   ·simp
   ·split <;> simp
  ·rw[if_neg h1]
   by_cases h2:k<skip yZ s k
   ·rw[if_pos h2]
    split <;> simp
   ·rw[if_neg h2]
    by_cases h3:qG s k=0
    ·rw[if_pos h3];simp
    ·rw[if_neg h3]
     by_cases h4:qG s k=2
     ·rw[if_pos h4];have:({ data:=#[58,45] }:B8).toList=[58,45]:=by rw[ByteArray.toList_eq]
      simp[this]
     ·rw[if_neg h4];have hk:k<s.size:=(by omega);have t1:=zva s k hk;simp only[t1];have hs:(s[k].toNat:Int)=40\/(s[k].toNat:Int)=41\/(s[k].toNat:Int)=44\/(s[k].toNat:Int)=46:=by
       unfold qG at h3 h4;rw[dif_pos hk] at h3 h4
       by_cases hc:(s[k].toNat:Int)=58
       ·rw[if_pos hc] at h3 h4
        by_cases hd:k+1<s.size
        ·rw[dif_pos hd] at h3 h4
         by_cases he:(s[k+1].toNat:Int)=45
         ·rw[if_pos he] at h4;exact absurd rfl h4
         ·rw[if_neg he] at h3;exact absurd rfl h3
        ·rw[dif_neg hd] at h3;exact absurd rfl h3
       ·rw[if_neg hc] at h3
        by_cases hd:(s[k].toNat:Int)=40\/(s[k].toNat:Int)=41\/(s[k].toNat:Int)=44\/(s[k].toNat:Int)=46
        ·exact hd
        ·rw[if_neg hd] at h3;exact absurd rfl h3
      have u:∀ c:UInt8,(s[k].toNat:Int)=(c.toNat:Int)->s[k]=c:=λ c h=>(yc7 _ _).2 h
      rcases hs with h | h | h | h
      ·simp[u 40 h]
      ·simp[u 41 h]
      ·simp[u 44 h]
      ·simp[u 46 h]
structure ya2 (s:B8)(p:Nat):Prop where
 k0:(zD s p).1=0↔(tok s p).kind=46
 k2:(zD s p).1=2↔(tok s p).kind=110
 k3:(zD s p).1=3↔(tok s p).kind=118
 k4:(zD s p).1=4↔(tok s p).kind=119
 k5:(zD s p).1=5↔((tok s p).kind=115/\(tok s p).text.toList=[40])
 k6:(zD s p).1=6↔((tok s p).kind=115/\(tok s p).text.toList=[41])
 k7:(zD s p).1=7↔((tok s p).kind=115/\(tok s p).text.toList=[44])
 k8:(zD s p).1=8↔((tok s p).kind=115/\(tok s p).text.toList=[46])
 k9:(zD s p).1=9↔((tok s p).kind=115/\(tok s p).text.toList=[58,45])
 at_:(zD s p).2.1=(tok s p).at_
 lL:(zD s p).2.2=(tok s p).to
 word:(tok s p).kind=110\/(tok s p).kind=118->yP s p=(tok s p).text
theorem zeo (s:B8)(p:Nat)(hp:p<=s.size):ya2 s p:=by
 have h:=z52 s p;have e:=z81 s p hp;have e1:(zD s p).1=z06 (tok s p):=by rw[e]
 have e2:(zD s p).2.1=(tok s p).at_:=by rw[e]
 have e3:(zD s p).2.2=(tok s p).to:=by rw[e]
 have hw:(tok s p).kind=110\/(tok s p).kind=118->yP s p=(tok s p).text:=by
  intro hk;unfold yP;rw[e2,e3];rcases h with h | h | h | h | h | h
  ·omega
  ·omega
  ·exact h.2.symm
  ·exact h.2.symm
  ·omega
  ·omega
 refine⟨?_,?_,?_,?_,?_,?_,?_,?_,?_,e2,e3,hw⟩
 all_goals
  rw[e1];unfold z06;rcases h with h | h | h | h | h | ⟨h,h' | h' | h' | h' | h'⟩
  all_goals first | (simp[h,h'];done) | (simp[h.1];done) | (simp[h];done)
end
section
variable {bd:Int} {p:Nat} {s:B8}
theorem zf8 (h:0<=bd):jV s p bd=bd/\gu s p bd=p:=by
 have e:zkd s p bd=bd:=by unfold zkd;rw[if_neg (by omega)]
 have e1:jV s p bd=bd:=by unfold jV;split;exact e;rfl
 exact⟨e1,by unfold gu;rw[e1,if_neg (by omega)]⟩
theorem zxi (h:0<=bd):zkd s p bd=bd:=by unfold zkd;rw[if_neg (by omega)]
variable {wd:B8}
theorem ze6 (h:0<=bd):isS s p bd wd=false:=by
 unfold isS;simp;intro h1;omega
theorem zdw (h:0<=bd):zb1 s p bd wd=p/\zb0 s p bd wd=bd:=by
 unfold zb1 zb0;rw[ze6 h];exact⟨rfl,rfl⟩
theorem zx1 (h:0<=bd):jH s p bd wd=bd:=by
 unfold jH;rw[ze6 h];exact zxi h
theorem zw2 (h:0<=bd):(yD s p bd).2.2=bd:=by
 have e1:zce s p bd=bd:=by unfold zce;split;exact zxi h;rfl
 have e2:zad s p bd=bd:=by unfold zad;rw[e1];exact (zf8 h).1
 unfold yD;rw[e2,ze6 h];exact (zdw h).2
theorem yb4 (h:0<=bd):(xO s p bd).2=bd:=by
 have e1:zsr s p bd=false:=by unfold zsr;simp;intro h1;omega
 unfold xO zoz zj2;rw[e1];exact zw2 h
theorem zf7 (h:bd<0)(h1:(tok s p).kind≠33)(h2:(tok s p).kind≠46):jV s p bd=bd/\gu s p bd=(tok s p).to:=by
 have e1:jV s p bd=bd:=by unfold jV;rw[if_neg (by simp[h1,h2])]
 exact⟨e1,by unfold gu;rw[e1,if_pos h]⟩
theorem zhs (h:bd<0):zkd s p bd=(tok s p).at_:=by unfold zkd;rw[if_pos h]
theorem zg5 (h:bd<0):isS s p bd wd=true↔((tok s p).kind=115/\(tok s p).text.toList=wd.toList):=by
 unfold isS;simp[h]
theorem zow (h:bd<0)(hn:¬ ((tok s p).kind=115/\(tok s p).text.toList=wd.toList)):isS s p bd wd=false:=by
 cases e:isS s p bd wd with
 | false=>rfl
 | true=>exact absurd ((zg5 h).1 e) hn
theorem ze4 (h:bd<0)(hy:(tok s p).kind=115/\(tok s p).text.toList=wd.toList):zb1 s p bd wd=(tok s p).to/\zb0 s p bd wd=bd:=by
 have e:=(zg5 (wd:=wd) h).2 hy;have t:=zf7 h (by rw[hy.1];decide) (by rw[hy.1];decide);unfold zb1 zb0;rw[e];exact⟨t.2,t.1⟩
theorem ze5 (h:bd<0)(hn:¬ ((tok s p).kind=115/\(tok s p).text.toList=wd.toList)):zb1 s p bd wd=p/\zb0 s p bd wd=bd:=by
 unfold zb1 zb0;rw[zow h hn];exact⟨rfl,rfl⟩
theorem zdu (c:UInt8):(chr c).toList=[c]:=by
 rw[ByteArray.toList_eq]
def a8 (t:zen):Bool × B8:=(t.isVar,t.text)
variable {l:List zen}
theorem zpn (f:Nat)(h:bd<0)(hn:¬ ((tok s p).kind=110\/(tok s p).kind=118)\/l.length=4):(zb8 s (f+1) p bd l).2.2=(tok s p).at_:=by
 have e:zhe s p bd l.length=(tok s p).at_:=by
  unfold zhe;rw[if_pos,zhs h];rcases hn with hn | hn
  ·simp[not_or.1 hn]
  ·simp[hn]
 have h0:(0:Int)<=(tok s p).at_:=by omega
 rw[zb8];simp only[e,(zf8 h0).1,(zf8 h0).2,ze6 h0,(zdw h0).1,(zdw h0).2,zx1 h0];rfl
theorem z9f (f:Nat)(h:bd<0)(hk:(tok s p).kind=110\/(tok s p).kind=118)(hl:l.length≠4)(hc:(tok s (tok s p).to).kind=115/\(tok s (tok s p).to).text.toList=[44]):
  zb8 s (f+1) p bd l=zb8 s f (tok s (tok s p).to).to bd (l++[zii s p]):=by
 have e:zhe s p bd l.length=bd:=by
  unfold zhe;rw[if_neg];rcases hk with hk | hk <;> simp[hk,hl]
 have t:=zf7 h (p:=p) (s:=s) (by rcases hk with hk | hk <;> rw[hk] <;> decide) (by rcases hk with hk | hk <;> rw[hk] <;> decide);rw[<-zdu] at hc;rw[zb8];simp only[e,t.1,t.2,(ze4 h hc).1,(ze4 h hc).2,(zg5 h).2 hc,if_true]
theorem z5t (f:Nat)(h:bd<0)(hk:(tok s p).kind=110\/(tok s p).kind=118)(hl:l.length≠4)(hc:¬ ((tok s (tok s p).to).kind=115/\(tok s (tok s p).to).text.toList=[44])):
  zb8 s (f+1) p bd l=(l++[zii s p],gu s (tok s p).to (jH s (tok s p).to bd (chr 41)),jV s (tok s p).to (jH s (tok s p).to bd (chr 41))):=by
 have e:zhe s p bd l.length=bd:=by
  unfold zhe;rw[if_neg];rcases hk with hk | hk <;> simp[hk,hl]
 have t:=zf7 h (p:=p) (s:=s) (by rcases hk with hk | hk <;> rw[hk] <;> decide) (by rcases hk with hk | hk <;> rw[hk] <;> decide);rw[<-zdu] at hc;rw[zb8];simp only[e,t.1,t.2,(ze5 h hc).1,(ze5 h hc).2,zow h hc];rfl
theorem zfw (h:bd<0)(hy:(tok s p).kind=115/\(tok s p).text.toList=wd.toList):gu s p (jH s p bd wd)=(tok s p).to/\jV s p (jH s p bd wd)=bd:=by
 have t:=zf7 h (by rw[hy.1];decide) (by rw[hy.1];decide);unfold jH;rw[(zg5 h).2 hy];exact⟨t.2,t.1⟩
theorem zvq (h:bd<0)(hn:¬ ((tok s p).kind=115/\(tok s p).text.toList=wd.toList)):jV s p (jH s p bd wd)=(tok s p).at_:=by
 unfold jH;rw[zow h hn];simp only[Bool.false_eq_true,if_false,zhs h];exact (zf8 (by omega)).1
theorem z0u {pl:Nat->Nat}{t:zen}(dP:∀ i (h:i<l.length),pl i=(l[i]).at_):∀ i (h:i<(l++[t]).length),dL pl l.length t.at_ i=((l++[t])[i]).at_:=by
 intro i h
 by_cases e:i=l.length
 ·subst e;simp[dL]
 ·have h1:i<l.length:=by simp at h;omega
  rw[List.getElem_append_left h1];simp[dL,e,dP i h1]
theorem z9e (s:B8)(bd:Int)(cU:bd<0):∀ (f p:Nat) (l:List zen) (pl:Nat->Nat),l.length+f=4->p<=s.size->(∀ i (h:i<l.length),pl i=(l[i]).at_) ->
  ((zN s f p (l.map a8) pl).1=true->(zb8 s (f+1) p bd l).2=((zN s f p (l.map a8) pl).2.1,bd)/\(zN s f p (l.map a8) pl).2.2.1=(zb8 s (f+1) p bd l).1.map a8/\(∀ i (h:i<(zb8 s (f+1) p bd l).1.length),(zN s f p (l.map a8) pl).2.2.2 i=((zb8 s (f+1) p bd l).1[i]).at_)/\(zN s f p (l.map a8) pl).2.1<=s.size) /\
  ((zN s f p (l.map a8) pl).1=false->(zb8 s (f+1) p bd l).2.2=((zD s (zN s f p (l.map a8) pl).2.1).2.1:Int)):=by
 intro f
 induction f with
 | zero=>
  intro p l pl hl hp _;refine⟨λ h=>by simp[zN] at h,λ _=>?_⟩;rw[zpn 0 cU (.inr (by omega))];simp only[zN];rw[(zeo s p hp).at_]
 | succ f ih=>
  intro p l pl hl hp dP;have K:=zeo s p hp;have KZ:(tok s p).to<=s.size:=by rw[<-K.lL];exact (xD s p hp).2
  have K2:=zeo s (tok s p).to KZ;have rm:(tok s (tok s p).to).to<=s.size:=by rw[<-K2.lL];exact (xD s _ KZ).2
  by_cases hk:(tok s p).kind=110\/(tok s p).kind=118
  ·have kg:(zD s p).1=2\/(zD s p).1=3:=(by rw[K.k2,K.k3];exact hk);have zv:(l.map a8)++[(decide ((zD s p).1=3),yP s p)]=(l++[zii s p]).map a8:=by
    rw[List.map_append];simp only[List.map_cons,List.map_nil,a8,zii];rw[K.word hk];have:decide ((zD s p).1=3)=((tok s p).kind==118):=by
     rw[Bool.eq_iff_iff];simp[K.k3]
    rw[this]
   have sM:∀ i (h:i<(l++[zii s p]).length),dL pl l.length (zD s p).2.1 i=((l++[zii s p])[i]).at_:=by
    rw[K.at_];exact z0u (t:=zii s p) dP
   rw[zN,if_pos kg,K.lL,zv,List.length_map]
   by_cases hc:(tok s (tok s p).to).kind=115/\(tok s (tok s p).to).text.toList=[44]
   ·rw[if_pos (K2.k7.2 hc),K2.lL,z9f (f+1) cU hk (by omega) hc];exact ih _ _ _ (by simp;omega) rm sM
   ·rw[if_neg (λ e=>hc (K2.k7.1 e)),z5t (f+1) cU hk (by omega) hc]
    by_cases hs:(tok s (tok s p).to).kind=115/\(tok s (tok s p).to).text.toList=[41]
    ·have hr:z6 s (tok s p).to 6=(tok s (tok s p).to).to:=(by unfold z6;rw[K2.k6.2 hs];exact K2.lL);rw[<-zdu] at hs;refine⟨λ _=>⟨?_,rfl,sM,by simp only[hr];exact rm⟩,λ h=>?_⟩
     ·simp only[(zfw cU hs).1,(zfw cU hs).2,hr]
     ·rw[zdu] at hs;simp[K2.k6.2 hs] at h
    ·have h6:¬ (zD s (tok s p).to).1=6:=λ e=>hs (K2.k6.1 e)
     have hr:z6 s (tok s p).to 6=(tok s p).to:=(by unfold z6;rw[if_neg (by simpa using h6)]);rw[<-zdu] at hs;refine⟨λ h=>by simp[h6] at h,λ _=>?_⟩;simp only[zvq cU hs,hr];rw[K2.at_]
  ·have kg:¬ ((zD s p).1=2\/(zD s p).1=3):=(by rw[K.k2,K.k3];exact hk);rw[zN,if_neg kg];refine⟨λ h=>by simp at h,λ _=>?_⟩;rw[zpn (f+1) cU (.inl hk)];simp only;rw[K.at_]
def zrt (s:B8)(p:Nat)(bd:Int)(r:ye3):Prop:=
 match r with
 | .no q=>(yD s p bd).2.2=((zD s q).2.1:Int)
 | .yes q pd ts pl=>(yD s p bd).2=(q,bd)/\pd=(tok s p).text/\ts=(yD s p bd).1.map a8/\(∀ i (h:i<(yD s p bd).1.length),pl i=((yD s p bd).1[i]).at_)/\q<=s.size
theorem zuy (s:B8)(p:Nat)(bd:Int)(cU:bd<0)(hp:p<=s.size):zrt s p bd (yK s p):=by
 have K:=zeo s p hp;have KZ:(tok s p).to<=s.size:=by rw[<-K.lL];exact (xD s p hp).2
 have K2:=zeo s (tok s p).to KZ;have rm:(tok s (tok s p).to).to<=s.size:=by rw[<-K2.lL];exact (xD s _ KZ).2
 unfold yK
 by_cases hk:(tok s p).kind=110
 ·rw[if_pos (K.k2.2 hk),K.lL,K.word (.inl hk)];have b1:zce s p bd=bd:=by unfold zce;simp[hk]
  have t:=zf7 cU (p:=p) (s:=s) (by rw[hk];decide) (by rw[hk];decide);have b2:zad s p bd=bd:=by unfold zad;rw[b1];exact t.1
  have p2:zcf s p bd=(tok s p).to:=by unfold zcf;rw[b1];exact t.2
  by_cases ho:(tok s (tok s p).to).kind=115/\(tok s (tok s p).to).text.toList=[40]
  ·rw[if_pos (K2.k5.2 ho),K2.lL];have e:yD s p bd=zb8 s 5 (tok s (tok s p).to).to bd []:=by
    rw[<-zdu] at ho;unfold yD;rw[b2,p2,(zg5 cU).2 ho,(ze4 cU ho).1,(ze4 cU ho).2];rfl
   have T:=z9e s bd cU 4 (tok s (tok s p).to).to [] (λ _=>0) rfl rm (by simp);rw[List.map_nil] at T
   cases hP:(zN s 4 (tok s (tok s p).to).to [] (λ _=>0)).1 with
   | true=>
    rw[if_pos rfl];obtain⟨t1,t2,t3,t4⟩:=T.1 hP;unfold zrt;simp only[e];exact⟨t1,trivial,t2,t3,t4⟩
   | false=>
    rw[if_neg (by decide)];unfold zrt;simp only[e];exact T.2 hP
  ·rw[if_neg (λ h=>ho (K2.k5.1 h))];have e:yD s p bd=([],(tok s p).to,bd):=by
    rw[<-zdu] at ho;unfold yD;rw[b2,p2,zow cU ho,(ze5 cU ho).1,(ze5 cU ho).2];rfl
   unfold zrt;simp only[e];exact⟨trivial,trivial,by simp,by simp,KZ⟩
 ·rw[if_neg (λ h=>hk (K.k2.1 h))];unfold zrt;have b1:zce s p bd=(tok s p).at_:=by unfold zce;simp[hk,zhs cU]
  have h0:(0:Int)<=(tok s p).at_:=by omega
  have b2:zad s p bd=(tok s p).at_:=by unfold zad;rw[b1];exact (zf8 h0).1
  simp only;rw[K.at_];unfold yD;rw[b2,ze6 h0];exact (zdw (s:=s) (wd:=chr 40) (p:=zcf s p bd) h0).2
end
end Go.Proofs.YtldkpahaocjdpaaGreat
