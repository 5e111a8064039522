/-
  Plain: a square table of marks, as the reference's hangs makes it in memory: a row of slices, and behind it, block by block, the rows.
-/
import Derived.Test.YtldkpahaocjdpaaGreatM09
set_option maxHeartbeats 16000000
set_option maxRecDepth 1000000
namespace Go.Proofs.YtldkpahaocjdpaaGreat
section
open Go.RowKit
def upd (M:Nat->Nat->Bool)(i j:Nat):Nat->Nat->Bool:=λ a b=>(decide (a=i)&&decide (b=j))||M a b
theorem z43:(Tryz.prog.info? 4).map (λ i=>(i.zero,i.size,i.bytes))=some (some (.bool false),1,1):=by kernel_rfl
theorem z0h:(Tryz.prog.info? 143).map (λ i=>(i.zero,i.size,i.bytes))=some (some (.slice none 0 0),1,24):=by kernel_rfl
theorem ybt (n:Nat)(hn:n<=1000)(u:W8):(Instr.makeSlice 314 (.int .i64 n) (.int .i64 n)).run Tryz.prog u=.ok (.slice (some ⟨u.heap.size,0,none⟩) n n) (u.alloc (.cells (madeCells #[.slice none 0 0] n) 143)):=by
 obtain⟨i0,hi,dK,cB,bZ⟩:=info_parts z0h;have h:=run_make (P:=Tryz.prog) u 314 143 i0 (.slice none 0 0) Tryz.underlying314 hi dK .i64 .i64 (n:Int) (n:Int) (by omega) (Int.le_refl _) (by rw[bZ];omega) (by omega);simpa[cB,Value.cells] using h
theorem z5c (n:Nat)(hn:n<=1000)(u:W8):(Instr.makeSlice 143 (.int .i64 n) (.int .i64 n)).run Tryz.prog u=.ok (.slice (some ⟨u.heap.size,0,none⟩) n n) (u.alloc (.cells (madeCells #[.bool false] n) 4)):=by
 obtain⟨i0,hi,dK,cB,bZ⟩:=info_parts z43;have h:=run_make (P:=Tryz.prog) u 143 4 i0 (.bool false) Tryz.underlying143 hi dK .i64 .i64 (n:Int) (n:Int) (by omega) (Int.le_refl _) (by rw[bZ];omega) (by omega);simpa[cB,Value.cells] using h
theorem z5b (z:Value)(n i:Nat)(h:i<n):(madeCells #[z] n)[i]?=some z:=by
 have:=toList_madeCells_one z n;rw[<-Array.getElem?_toList,this,List.getElem?_replicate,if_pos h]
end
section
open Go.RowKit
def zcl (ps:P9)(nm:B8):Nat:=(xJ ps nm).toNat
def zqr (ps:P9)(h:Nat):List yQ->(Nat->Nat->Bool)->(Nat->Nat->Bool)
 | [],M=>M
 | A::r,M=>zqr ps h r (upd M h (zcl ps A.pred))
def zs8 (ps:P9):List yL->(Nat->Nat->Bool)->(Nat->Nat->Bool)
 | [],M=>M
 | R::r,M=>zs8 ps r (zqr ps (zcl ps R.head.pred) R.body M)
def fwK (n m i:Nat)(M:Nat->Nat->Bool)(k:Nat):Nat->Nat->Bool:=
 if k<n then fwK n m i (if M i m&&M m k then upd M i k else M) (k+1) else M
termination_by n-k
def fwI (n m:Nat)(M:Nat->Nat->Bool)(i:Nat):Nat->Nat->Bool:=
 if i<n then fwI n m (fwK n m i M 0) (i+1) else M
termination_by n-i
def fwM (n:Nat)(M:Nat->Nat->Bool)(m:Nat):Nat->Nat->Bool:=
 if m<n then fwM n (fwI n m M 0) (m+1) else M
termination_by n-m
variable {k n m i:Nat} {M:Nat->Nat->Bool}
theorem ybk (h:k<n):fwK n m i M k=fwK n m i (if M i m&&M m k then upd M i k else M) (k+1):=by rw[fwK,if_pos h]
theorem z9c (h:¬ k<n):fwK n m i M k=M:=by rw[fwK,if_neg h]
theorem ybi (h:i<n):fwI n m M i=fwI n m (fwK n m i M 0) (i+1):=by rw[fwI,if_pos h]
theorem z9b (h:¬ i<n):fwI n m M i=M:=by rw[fwI,if_neg h]
theorem z7u (h:m<n):fwM n M m=fwM n (fwI n m M 0) (m+1):=by rw[fwM,if_pos h]
theorem z0c (h:¬ m<n):fwM n M m=M:=by rw[fwM,if_neg h]
def qP (ps:P9)(rs:List yL):Nat->Nat->Bool:=fwM ps.length (zs8 ps rs (λ _ _=>false)) 0
def zss (ps:P9)(l:List yQ):Prop:=∀ A∈l,0<=xJ ps A.pred
end
section
open Go.RowKit
def zwt (ps:P9)(H:Nat->Nat->Bool)(hd:B8)(A:yQ):Bool:=A.no&&(xJ ps A.pred==xJ ps hd||H (zcl ps A.pred) (zcl ps hd))
def zek (ps:P9)(H:Nat->Nat->Bool)(hd:B8):List yQ->Int
 | []=>-1
 | A::r=>if zwt ps H hd A then A.rz else zek ps H hd r
def zd7 (ps:P9)(H:Nat->Nat->Bool):List yL->Int
 | []=>-1
 | R::r=>if 0<=zek ps H R.head.pred R.body then zek ps H R.head.pred R.body else zd7 ps H r
end
section
open Go.RowKit
def yaz (ps:P9)(f:Nat->Nat)(hd:B8)(A:yQ):Prop:=f (zcl ps A.pred)+(if A.no then 1 else 0)<=f (zcl ps hd)
def ya6 (ps:P9)(rs:List yL)(f:Nat->Nat):Prop:=∀ R∈rs,∀ A∈R.body,yaz ps f R.head.pred A
def fh (S:Nat->Nat)(i v:Nat):Nat->Nat:=λ a=>if a=i then v else S a
theorem zk5 (n:Nat)(hn:n<=1000)(u:W8):(Instr.makeSlice 24 (.int .i64 n) (.int .i64 n)).run Tryz.prog u=.ok (.slice (some ⟨u.heap.size,0,none⟩) n n) (u.alloc (.cells (madeCells #[.int .i64 0] n) 3)):=by
 obtain⟨i0,hi,dK,cB,bZ⟩:=info_parts z0i;have h:=run_make (P:=Tryz.prog) u 24 3 i0 (.int .i64 0) Tryz.underlying24 hi dK .i64 .i64 (n:Int) (n:Int) (by omega) (Int.le_refl _) (by rw[bZ];omega) (by omega);simpa[cB,Value.cells] using h
end
section
open Go.RowKit
def zdz (s:B8)(p:Nat)(bd:Int)(n:Nat):Int:=if n==30 then zjq s p bd else bd
def zhq (s:B8)(p:Nat)(bd:Int):yL:=⟨DT s p bd,(za8 s p bd).1⟩
def zd8 (s:B8)(p:Nat)(bd:Int):Bool:=(tok s p).kind != 46&&decide (bd<0)
def zc7 (s:B8):Nat->Nat->Int->List yL->List yL × Nat × Int
 | 0,p,bd,l=>(l,p,bd)
 | f+1,p,bd,l=>if zd8 s p bd then zc7 s f (zlw s p (zdz s p bd l.length)) (zci s p (zdz s p bd l.length)) (l++[zhq s p (zdz s p bd l.length)]) else (l,p,bd)
theorem z2i (s:B8)(f p:Nat)(bd:Int)(l:List yL)(hg:zd8 s p bd=false):zc7 s f p bd l=(l,p,bd):=by
 cases f with
 | zero=>rfl
 | succ f=>rw[zc7,if_neg (by rw[hg];decide)]
def vA (s:B8):List yL × Nat × Int:=zc7 s 31 0 (-1) []
def zH (s:B8):Int × P9:=zal ((vA s).1.flatMap yL.atoms) []
def xY (s:B8):Bool × Int × Int:=
 if 800<s.size then (false,1,0)
 else if 0<=(vA s).2.2 then (false,2,(vA s).2.2)
 else if 0<=(zH s).1 then (false,3,(zH s).1)
 else if 0<=za6 (vA s).1 then (false,4,za6 (vA s).1)
 else if 0<=zd7 (zH s).2 (qP (zH s).2 (vA s).1) (vA s).1 then (false,5,zd7 (zH s).2 (qP (zH s).2 (vA s).1) (vA s).1)
 else (true,0,0)
end
section
theorem z3d (s:B8)(i:Nat):(tok s i).kind=46\/(tok s i).kind=33\/((tok s i).kind=110/\(tok s i).text=s.extract (tok s i).at_ (tok s i).to)\/((tok s i).kind=118/\(tok s i).text=s.extract (tok s i).at_ (tok s i).to)\/(tok s i).kind=119 \/
  ((tok s i).kind=115/\((tok s i).text.toList=[40]\/(tok s i).text.toList=[41]\/(tok s i).text.toList=[44]\/(tok s i).text.toList=[46]\/(tok s i).text.toList=[58,45])):=by
 unfold tok;generalize xB yF s i=k;unfold z3b
 by_cases h0:s.size<=k
 ·simp[h0]
 ·rw[if_neg h0]
  by_cases h1:k<xB jG s k
  ·rw[if_pos h1]
   split
   ·simp
   ·split <;> simp
  ·rw[if_neg h1]
   by_cases h2:k<xB xD s k
   ·rw[if_pos h2]
    split <;> simp
   ·rw[if_neg h2]
    by_cases h3:qY s k=0
    ·rw[if_pos h3];simp
    ·rw[if_neg h3]
     by_cases h4:qY s k=2
     ·rw[if_pos h4];have:({ data:=#[58,45] }:B8).toList=[58,45]:=by rw[ByteArray.toList_eq]
      simp[this]
     ·rw[if_neg h4];have hk:k<s.size:=(by omega);have t1:=ztb s k hk;simp only[t1];have hs:(s[k].toNat:Int)=40\/(s[k].toNat:Int)=41\/(s[k].toNat:Int)=44\/(s[k].toNat:Int)=46:=by
       unfold qY at h3 h4;rw[dif_pos hk] at h3 h4
       by_cases hc:(s[k].toNat:Int)=58
       ·rw[if_pos hc] at h3 h4
        by_cases hd:k+1<s.size
        ·rw[dif_pos hd] at h3 h4
         by_cases he:(s[k+1].toNat:Int)=45
         ·rw[if_pos he] at h4;exact absurd rfl h4
         ·rw[if_neg he] at h3;exact absurd rfl h3
        ·rw[dif_neg hd] at h3;exact absurd rfl h3
       ·rw[if_neg hc] at h3
        by_cases hd:(s[k].toNat:Int)=40\/(s[k].toNat:Int)=41\/(s[k].toNat:Int)=44\/(s[k].toNat:Int)=46
        ·exact hd
        ·rw[if_neg hd] at h3;exact absurd rfl h3
      have u:∀ c:UInt8,(s[k].toNat:Int)=(c.toNat:Int)->s[k]=c:=λ c h=>(yai _ _).2 h
      rcases hs with h | h | h | h
      ·simp[u 40 h]
      ·simp[u 41 h]
      ·simp[u 44 h]
      ·simp[u 46 h]
structure z8j (s:B8)(p:Nat):Prop where
 k0:(zD s p).1=0↔(tok s p).kind=46
 k2:(zD s p).1=2↔(tok s p).kind=110
 k3:(zD s p).1=3↔(tok s p).kind=118
 k4:(zD s p).1=4↔(tok s p).kind=119
 k5:(zD s p).1=5↔((tok s p).kind=115/\(tok s p).text.toList=[40])
 k6:(zD s p).1=6↔((tok s p).kind=115/\(tok s p).text.toList=[41])
 k7:(zD s p).1=7↔((tok s p).kind=115/\(tok s p).text.toList=[44])
 k8:(zD s p).1=8↔((tok s p).kind=115/\(tok s p).text.toList=[46])
 k9:(zD s p).1=9↔((tok s p).kind=115/\(tok s p).text.toList=[58,45])
 at_:(zD s p).2.1=(tok s p).at_
 lL:(zD s p).2.2=(tok s p).to
 word:(tok s p).kind=110\/(tok s p).kind=118->yS s p=(tok s p).text
theorem zet (s:B8)(p:Nat)(hp:p<=s.size):z8j s p:=by
 have h:=z3d s p;have e:=z6e s p hp;have e1:(zD s p).1=zym (tok s p):=by rw[e]
 have e2:(zD s p).2.1=(tok s p).at_:=by rw[e]
 have e3:(zD s p).2.2=(tok s p).to:=by rw[e]
 have hw:(tok s p).kind=110\/(tok s p).kind=118->yS s p=(tok s p).text:=by
  intro hk;unfold yS;rw[e2,e3];rcases h with h | h | h | h | h | h
  ·omega
  ·omega
  ·exact h.2.symm
  ·exact h.2.symm
  ·omega
  ·omega
 refine⟨?_,?_,?_,?_,?_,?_,?_,?_,?_,e2,e3,hw⟩
 all_goals
  rw[e1];unfold zym;rcases h with h | h | h | h | h | ⟨h,h' | h' | h' | h' | h'⟩
  all_goals first | (simp[h,h'];done) | (simp[h.1];done) | (simp[h];done)
end
section
variable {bd:Int} {p:Nat} {s:B8}
theorem zfm (h:0<=bd):jT s p bd=bd/\eV s p bd=p:=by
 have e:zjq s p bd=bd:=by unfold zjq;rw[if_neg (by omega)]
 have e1:jT s p bd=bd:=by unfold jT;split;exact e;rfl
 exact⟨e1,by unfold eV;rw[e1,if_neg (by omega)]⟩
theorem zvc (h:0<=bd):zjq s p bd=bd:=by unfold zjq;rw[if_neg (by omega)]
variable {wd:B8}
theorem zer (h:0<=bd):isS s p bd wd=false:=by
 unfold isS;simp;intro h1;omega
theorem zdl (h:0<=bd):zbq s p bd wd=p/\zbp s p bd wd=bd:=by
 unfold zbq zbp;rw[zer h];exact⟨rfl,rfl⟩
theorem zvs (h:0<=bd):jE s p bd wd=bd:=by
 unfold jE;rw[zer h];exact zvc h
theorem zux (h:0<=bd):(yB s p bd).2.2=bd:=by
 have e1:zb6 s p bd=bd:=by unfold zb6;split;exact zvc h;rfl
 have e2:qT s p bd=bd:=by unfold qT;rw[e1];exact (zfm h).1
 unfold yB;rw[e2,zer h];exact (zdl h).2
theorem z9j (h:0<=bd):(xL s p bd).2=bd:=by
 have e1:zq0 s p bd=false:=by unfold zq0;simp;intro h1;omega
 unfold xL znn zjf;rw[e1];exact zux h
theorem zfl (h:bd<0)(h1:(tok s p).kind≠33)(h2:(tok s p).kind≠46):jT s p bd=bd/\eV s p bd=(tok s p).to:=by
 have e1:jT s p bd=bd:=by unfold jT;rw[if_neg (by simp[h1,h2])]
 exact⟨e1,by unfold eV;rw[e1,if_pos h]⟩
theorem zg5 (h:bd<0):zjq s p bd=(tok s p).at_:=by unfold zjq;rw[if_pos h]
theorem zgj (h:bd<0):isS s p bd wd=true↔((tok s p).kind=115/\(tok s p).text.toList=wd.toList):=by
 unfold isS;simp[h]
theorem znk (h:bd<0)(hn:¬ ((tok s p).kind=115/\(tok s p).text.toList=wd.toList)):isS s p bd wd=false:=by
 cases e:isS s p bd wd with
 | false=>rfl
 | true=>exact absurd ((zgj h).1 e) hn
theorem zep (h:bd<0)(hy:(tok s p).kind=115/\(tok s p).text.toList=wd.toList):zbq s p bd wd=(tok s p).to/\zbp s p bd wd=bd:=by
 have e:=(zgj (wd:=wd) h).2 hy;have t:=zfl h (by rw[hy.1];decide) (by rw[hy.1];decide);unfold zbq zbp;rw[e];exact⟨t.2,t.1⟩
theorem zeq (h:bd<0)(hn:¬ ((tok s p).kind=115/\(tok s p).text.toList=wd.toList)):zbq s p bd wd=p/\zbp s p bd wd=bd:=by
 unfold zbq zbp;rw[znk h hn];exact⟨rfl,rfl⟩
theorem zdk (c:UInt8):(chr c).toList=[c]:=by
 rw[ByteArray.toList_eq]
def aM (t:zea):Bool × B8:=(t.isVar,t.text)
variable {l:List zea}
theorem zoa (f:Nat)(h:bd<0)(hn:¬ ((tok s p).kind=110\/(tok s p).kind=118)\/l.length=4):(zby s (f+1) p bd l).2.2=(tok s p).at_:=by
 have e:zgr s p bd l.length=(tok s p).at_:=by
  unfold zgr;rw[if_pos,zg5 h];rcases hn with hn | hn
  ·simp[not_or.1 hn]
  ·simp[hn]
 have h0:(0:Int)<=(tok s p).at_:=by omega
 rw[zby];simp only[e,(zfm h0).1,(zfm h0).2,zer h0,(zdl h0).1,(zdl h0).2,zvs h0];rfl
theorem z6t (f:Nat)(h:bd<0)(hk:(tok s p).kind=110\/(tok s p).kind=118)(hl:l.length≠4)(hc:(tok s (tok s p).to).kind=115/\(tok s (tok s p).to).text.toList=[44]):
  zby s (f+1) p bd l=zby s f (tok s (tok s p).to).to bd (l++[zht s p]):=by
 have e:zgr s p bd l.length=bd:=by
  unfold zgr;rw[if_neg];rcases hk with hk | hk <;> simp[hk,hl]
 have t:=zfl h (p:=p) (s:=s) (by rcases hk with hk | hk <;> rw[hk] <;> decide) (by rcases hk with hk | hk <;> rw[hk] <;> decide);rw[<-zdk] at hc;rw[zby];simp only[e,t.1,t.2,(zep h hc).1,(zep h hc).2,(zgj h).2 hc,if_true]
theorem z24 (f:Nat)(h:bd<0)(hk:(tok s p).kind=110\/(tok s p).kind=118)(hl:l.length≠4)(hc:¬ ((tok s (tok s p).to).kind=115/\(tok s (tok s p).to).text.toList=[44])):
  zby s (f+1) p bd l=(l++[zht s p],eV s (tok s p).to (jE s (tok s p).to bd (chr 41)),jT s (tok s p).to (jE s (tok s p).to bd (chr 41))):=by
 have e:zgr s p bd l.length=bd:=by
  unfold zgr;rw[if_neg];rcases hk with hk | hk <;> simp[hk,hl]
 have t:=zfl h (p:=p) (s:=s) (by rcases hk with hk | hk <;> rw[hk] <;> decide) (by rcases hk with hk | hk <;> rw[hk] <;> decide);rw[<-zdk] at hc;rw[zby];simp only[e,t.1,t.2,(zeq h hc).1,(zeq h hc).2,znk h hc];rfl
theorem zfg (h:bd<0)(hy:(tok s p).kind=115/\(tok s p).text.toList=wd.toList):eV s p (jE s p bd wd)=(tok s p).to/\jT s p (jE s p bd wd)=bd:=by
 have t:=zfl h (by rw[hy.1];decide) (by rw[hy.1];decide);unfold jE;rw[(zgj h).2 hy];exact⟨t.2,t.1⟩
theorem ztr (h:bd<0)(hn:¬ ((tok s p).kind=115/\(tok s p).text.toList=wd.toList)):jT s p (jE s p bd wd)=(tok s p).at_:=by
 unfold jE;rw[znk h hn];simp only[Bool.false_eq_true,if_false,zg5 h];exact (zfm (by omega)).1
theorem zyd {pl:Nat->Nat}{t:zea}(dP:∀ i (h:i<l.length),pl i=(l[i]).at_):∀ i (h:i<(l++[t]).length),dL pl l.length t.at_ i=((l++[t])[i]).at_:=by
 intro i h
 by_cases e:i=l.length
 ·subst e;simp[dL]
 ·have h1:i<l.length:=by simp at h;omega
  rw[List.getElem_append_left h1];simp[dL,e,dP i h1]
theorem z6s (s:B8)(bd:Int)(cU:bd<0):∀ (f p:Nat) (l:List zea) (pl:Nat->Nat),l.length+f=4->p<=s.size->(∀ i (h:i<l.length),pl i=(l[i]).at_) ->
  ((zQ s f p (l.map aM) pl).1=true->(zby s (f+1) p bd l).2=((zQ s f p (l.map aM) pl).2.1,bd)/\(zQ s f p (l.map aM) pl).2.2.1=(zby s (f+1) p bd l).1.map aM/\(∀ i (h:i<(zby s (f+1) p bd l).1.length),(zQ s f p (l.map aM) pl).2.2.2 i=((zby s (f+1) p bd l).1[i]).at_)/\(zQ s f p (l.map aM) pl).2.1<=s.size) /\
  ((zQ s f p (l.map aM) pl).1=false->(zby s (f+1) p bd l).2.2=((zD s (zQ s f p (l.map aM) pl).2.1).2.1:Int)):=by
 intro f
 induction f with
 | zero=>
  intro p l pl hl hp _;refine⟨λ h=>by simp[zQ] at h,λ _=>?_⟩;rw[zoa 0 cU (.inr (by omega))];simp only[zQ];rw[(zet s p hp).at_]
 | succ f ih=>
  intro p l pl hl hp dP;have K:=zet s p hp;have tw:(tok s p).to<=s.size:=by rw[<-K.lL];exact (xA s p hp).2
  have K2:=zet s (tok s p).to tw;have rm:(tok s (tok s p).to).to<=s.size:=by rw[<-K2.lL];exact (xA s _ tw).2
  by_cases hk:(tok s p).kind=110\/(tok s p).kind=118
  ·have kg:(zD s p).1=2\/(zD s p).1=3:=(by rw[K.k2,K.k3];exact hk);have zv:(l.map aM)++[(decide ((zD s p).1=3),yS s p)]=(l++[zht s p]).map aM:=by
    rw[List.map_append];simp only[List.map_cons,List.map_nil,aM,zht];rw[K.word hk];have:decide ((zD s p).1=3)=((tok s p).kind==118):=by
     rw[Bool.eq_iff_iff];simp[K.k3]
    rw[this]
   have sM:∀ i (h:i<(l++[zht s p]).length),dL pl l.length (zD s p).2.1 i=((l++[zht s p])[i]).at_:=by
    rw[K.at_];exact zyd (t:=zht s p) dP
   rw[zQ,if_pos kg,K.lL,zv,List.length_map]
   by_cases hc:(tok s (tok s p).to).kind=115/\(tok s (tok s p).to).text.toList=[44]
   ·rw[if_pos (K2.k7.2 hc),K2.lL,z6t (f+1) cU hk (by omega) hc];exact ih _ _ _ (by simp;omega) rm sM
   ·rw[if_neg (λ e=>hc (K2.k7.1 e)),z24 (f+1) cU hk (by omega) hc]
    by_cases hs:(tok s (tok s p).to).kind=115/\(tok s (tok s p).to).text.toList=[41]
    ·have hr:zZ s (tok s p).to 6=(tok s (tok s p).to).to:=(by unfold zZ;rw[K2.k6.2 hs];exact K2.lL);rw[<-zdk] at hs;refine⟨λ _=>⟨?_,rfl,sM,by simp only[hr];exact rm⟩,λ h=>?_⟩
     ·simp only[(zfg cU hs).1,(zfg cU hs).2,hr]
     ·rw[zdk] at hs;simp[K2.k6.2 hs] at h
    ·have h6:¬ (zD s (tok s p).to).1=6:=λ e=>hs (K2.k6.1 e)
     have hr:zZ s (tok s p).to 6=(tok s p).to:=(by unfold zZ;rw[if_neg (by simpa using h6)]);rw[<-zdk] at hs;refine⟨λ h=>by simp[h6] at h,λ _=>?_⟩;simp only[ztr cU hs,hr];rw[K2.at_]
  ·have kg:¬ ((zD s p).1=2\/(zD s p).1=3):=(by rw[K.k2,K.k3];exact hk);rw[zQ,if_neg kg];refine⟨λ h=>by simp at h,λ _=>?_⟩;rw[zoa (f+1) cU (.inl hk)];simp only;rw[K.at_]
def zp6 (s:B8)(p:Nat)(bd:Int)(r:ycb):Prop:=
 match r with
 | .no q=>(yB s p bd).2.2=((zD s q).2.1:Int)
 | .yes q pd ts pl=>(yB s p bd).2=(q,bd)/\pd=(tok s p).text/\ts=(yB s p bd).1.map aM/\(∀ i (h:i<(yB s p bd).1.length),pl i=((yB s p bd).1[i]).at_)/\q<=s.size
theorem zsy (s:B8)(p:Nat)(bd:Int)(cU:bd<0)(hp:p<=s.size):zp6 s p bd (yV s p):=by
 have K:=zet s p hp;have tw:(tok s p).to<=s.size:=by rw[<-K.lL];exact (xA s p hp).2
 have K2:=zet s (tok s p).to tw;have rm:(tok s (tok s p).to).to<=s.size:=by rw[<-K2.lL];exact (xA s _ tw).2
 unfold yV
 by_cases hk:(tok s p).kind=110
 ·rw[if_pos (K.k2.2 hk),K.lL,K.word (.inl hk)];have b1:zb6 s p bd=bd:=by unfold zb6;simp[hk]
  have t:=zfl cU (p:=p) (s:=s) (by rw[hk];decide) (by rw[hk];decide);have b2:qT s p bd=bd:=by unfold qT;rw[b1];exact t.1
  have p2:zb7 s p bd=(tok s p).to:=by unfold zb7;rw[b1];exact t.2
  by_cases ho:(tok s (tok s p).to).kind=115/\(tok s (tok s p).to).text.toList=[40]
  ·rw[if_pos (K2.k5.2 ho),K2.lL];have e:yB s p bd=zby s 5 (tok s (tok s p).to).to bd []:=by
    rw[<-zdk] at ho;unfold yB;rw[b2,p2,(zgj cU).2 ho,(zep cU ho).1,(zep cU ho).2];rfl
   have T:=z6s s bd cU 4 (tok s (tok s p).to).to [] (λ _=>0) rfl rm (by simp);rw[List.map_nil] at T
   cases hP:(zQ s 4 (tok s (tok s p).to).to [] (λ _=>0)).1 with
   | true=>
    rw[if_pos rfl];obtain⟨t1,t2,t3,t4⟩:=T.1 hP;unfold zp6;simp only[e];exact⟨t1,trivial,t2,t3,t4⟩
   | false=>
    rw[if_neg (by decide)];unfold zp6;simp only[e];exact T.2 hP
  ·rw[if_neg (λ h=>ho (K2.k5.1 h))];have e:yB s p bd=([],(tok s p).to,bd):=by
    rw[<-zdk] at ho;unfold yB;rw[b2,p2,znk cU ho,(zeq cU ho).1,(zeq cU ho).2];rfl
   unfold zp6;simp only[e];exact⟨trivial,trivial,by simp,by simp,tw⟩
 ·rw[if_neg (λ h=>hk (K.k2.1 h))];unfold zp6;have b1:zb6 s p bd=(tok s p).at_:=by unfold zb6;simp[hk,zg5 cU]
  have h0:(0:Int)<=(tok s p).at_:=by omega
  have b2:qT s p bd=(tok s p).at_:=by unfold qT;rw[b1];exact (zfm h0).1
  simp only;rw[K.at_];unfold yB;rw[b2,zer h0];exact (zdl (s:=s) (wd:=chr 40) (p:=zb7 s p bd) h0).2
end
section
structure zi3 (num:Nat)(A:yQ)(M:yT):Prop where
 num:M.num=num
 neg:M.neg=A.no
 pd:M.pd=A.pred
 ts:M.ts=A.aS.map aM
 start:A.no=true->M.start=A.rz
 place:M.place=A.at_
 pl:∀ i (h:i<A.aS.length),M.pl i=(A.aS[i]).at_
def aW (A:yQ):yX:=⟨A.no,A.pred,A.aS.map aM⟩
def yM (R:yL):yK:=⟨R.head.pred,R.head.aS.map aM,R.body.map aW⟩
def ca (num:Nat)(l:List yQ)(ms:List yT):Prop:=∃ q:List (yQ × yT),q.map (·.1)=l/\q.map (·.2)=ms/\∀ x∈q,zi3 num x.1 x.2
theorem ca.nil (num:Nat):ca num [] []:=⟨[],rfl,rfl,by simp⟩
variable {M:yT} {A:yQ} {ms:List yT} {l:List yQ}
theorem ca.snoc {num:Nat}(h:ca num l ms)(hm:zi3 num A M):ca num (l++[A]) (ms++[M]):=by
 obtain⟨q,h1,h2,h3⟩:=h;refine⟨q++[(A,M)],by simp[h1],by simp[h2],λ x hx=>?_⟩;rcases List.mem_append.1 hx with hx | hx
 ·exact h3 x hx
 ·simp at hx;subst hx;exact hm
theorem ca.cons {num:Nat}(h:ca num l ms)(hm:zi3 num A M):ca num (A::l) (M::ms):=by
 obtain⟨q,h1,h2,h3⟩:=h;refine⟨(A,M)::q,by simp[h1],by simp[h2],λ x hx=>?_⟩;rcases List.mem_cons.1 hx with hx | hx
 ·subst hx;exact hm
 ·exact h3 x hx
theorem z0z (s:B8)(p:Nat)(bd:Int)(cU:bd<0)(hp:p<=s.size):zq0 s p bd=((zD s p).1==4)/\zjf s p bd=zZ s p 4/\znn s p bd=bd:=by
 have K:=zet s p hp;have e:zq0 s p bd=((zD s p).1==4):=by
  unfold zq0;rw[Bool.eq_iff_iff];simp[cU,K.k4]
 by_cases h:(zD s p).1=4
 ·have hk:=K.k4.1 h;have t:=zfl cU (p:=p) (s:=s) (by rw[hk];decide) (by rw[hk];decide);have hb:((zD s p).1==4)=true:=by simpa using h
  refine⟨e,?_,?_⟩
  ·unfold zjf zZ;rw[e,if_pos hb,if_pos hb,t.2,K.lL]
  ·unfold znn;rw[e,if_pos hb,t.1]
 ·have hb:¬ ((zD s p).1==4)=true:=by simpa using h
  refine⟨e,?_,?_⟩
  ·unfold zjf zZ;rw[e,if_neg hb,if_neg hb]
  ·unfold znn;rw[e,if_neg hb]
variable {p:Nat} {s:B8}
theorem zr1 {k:Int}(h:p<=s.size):zZ s p k<=s.size:=by
 unfold zZ;split
 ·exact (xA s p h).2
 ·exact h
theorem ybr (s:B8)(num p:Nat)(bd:Int)(cU:bd<0)(hp:p<=s.size):
  match yV s (zZ s p 4) with
  | .no q=>(xL s p bd).2=((zD s q).2.1:Int)
  | .yes q pd ts pl=>xL s p bd=(q,bd)/\dc s p pd ts=aW (zew s p bd)/\zi3 num (zew s p bd) (dm s num p pd ts pl)/\q<=s.size:=by
 obtain⟨f1,f2,f3⟩:=z0z s p bd cU hp;have A:=zsy s (zZ s p 4) bd cU (zr1 hp);have K:=zet s p hp;have K2:=zet s (zZ s p 4) (zr1 hp);unfold xL zew;rw[f1,f2,f3]
 cases hr:yV s (zZ s p 4) with
 | no q=>rw[hr] at A;exact A
 | yes q pd ts pl=>
  rw[hr] at A;obtain⟨a1,a2,a3,a4,a5⟩:=A;refine⟨a1,by simp[dc,aW,a2,a3],⟨rfl,rfl,a2,a3,λ _=>K.at_,K2.at_,a4⟩,a5⟩
theorem zu0 (s:B8)(f p:Nat)(bd:Int)(l:List yQ):zia s (f+1) p bd l =
  if isS s (xL s p (yY s p bd l.length)).1 (xL s p (yY s p bd l.length)).2 { data:=#[44] } then
   zia s f (zbq s (xL s p (yY s p bd l.length)).1 (xL s p (yY s p bd l.length)).2 { data:=#[44] }) (zbp s (xL s p (yY s p bd l.length)).1 (xL s p (yY s p bd l.length)).2 { data:=#[44] }) (l++[zew s p (yY s p bd l.length)])
  else (l++[zew s p (yY s p bd l.length)],zbq s (xL s p (yY s p bd l.length)).1 (xL s p (yY s p bd l.length)).2 { data:=#[44] },zbp s (xL s p (yY s p bd l.length)).1 (xL s p (yY s p bd l.length)).2 { data:=#[44] }):=by rw[zia]
theorem zu1 (s:B8)(f p:Nat)(bd:Int)(l:List yQ)(a:Nat)(h:(xL s p (yY s p bd l.length)).2=(a:Int)):(zia s (f+1) p bd l).2.2=(a:Int):=by
 have h0:(0:Int)<=(a:Int):=by omega
 rw[zu0,h,zer h0,(zdl h0).1,(zdl h0).2];rfl
theorem zj2 {bd:Int}{a:Nat}{wd:B8}(h:bd=(a:Int)):jT s p (jE s p bd wd)=(a:Int):=by
 have h0:(0:Int)<=(a:Int):=by omega
 subst h;rw[zvs h0];exact (zfm h0).1
theorem z8x (s:B8)(num:Nat)(bd:Int)(cU:bd<0):∀ (f p:Nat) (l:List yQ) (fE ms:List yT),l.length+f=3->p<=s.size->ca num l ms ->
  ((vB s num f p (l.map aW) (fE++ms)).1=true->∃ q ms',(zia s (f+1) p bd l).2=(q,bd)/\(zD s q).1=8/\q<=s.size/\(vB s num f p (l.map aW) (fE++ms)).2.1=(zD s q).2.2/\(vB s num f p (l.map aW) (fE++ms)).2.2.1=(zia s (f+1) p bd l).1.map aW/\(vB s num f p (l.map aW) (fE++ms)).2.2.2=fE++ms'/\ca num (zia s (f+1) p bd l).1 ms') /\
  ((vB s num f p (l.map aW) (fE++ms)).1=false->jT s (zia s (f+1) p bd l).2.1 (jE s (zia s (f+1) p bd l).2.1 (zia s (f+1) p bd l).2.2 { data:=#[46] })=((zD s (vB s num f p (l.map aW) (fE++ms)).2.1).2.1:Int)):=by
 intro f
 induction f with
 | zero=>
  intro p l fE ms hl hp _;have K:=zet s p hp;refine⟨λ h=>by simp[vB] at h,λ _=>?_⟩;have e:yY s p bd l.length=((tok s p).at_:Int):=by
   unfold yY;have:(l.length==3)=true:=by simp;omega
   rw[if_pos this,zg5 cU]
  have h0:(0:Int)<=((tok s p).at_:Int):=by omega
  have hb:=zu1 s 0 p bd l (tok s p).at_ (by rw[e];exact z9j h0);simp only[vB];rw[zj2 hb,K.at_]
 | succ f ih=>
  intro p l fE ms hl hp hM;have e:yY s p bd l.length=bd:=by
   unfold yY;have:¬ (l.length==3)=true:=by simp;omega
   rw[if_neg this]
  have L:=ybr s num p bd cU hp;rw[vB]
  cases hr:yV s (zZ s p 4) with
  | no q=>
   rw[hr] at L;have hb:=zu1 s (f+1) p bd l (zD s q).2.1 (by rw[e];exact L);refine⟨λ h=>by simp at h,λ _=>?_⟩;rw[zj2 hb]
  | yes q pd ts pl=>
   rw[hr] at L;obtain⟨l1,l2,l3,l4⟩:=L;have K:=zet s q l4;have nD:l.map aW++[dc s p pd ts]=(l++[zew s p bd]).map aW:=(by simp[l2]);have a8:fE++ms++[dm s num p pd ts pl]=fE++(ms++[dm s num p pd ts pl]):=(by simp);have E1:=hM.snoc l3;rw[zu0,e,l1];simp only;rw[nD,a8]
   by_cases hc:(tok s q).kind=115/\(tok s q).text.toList=[44]
   ·have gD:(tok s q).kind=115/\(tok s q).text.toList=({ data:=#[44] }:B8).toList:=⟨hc.1,by rw[hc.2,ByteArray.toList_eq]⟩;rw[if_pos (K.k7.2 hc),K.lL,(zgj cU).2 gD,(zep cU gD).1,(zep cU gD).2,if_pos rfl];exact ih _ _ _ _ (by simp;omega) (by rw[<-K.lL];exact (xA s q l4).2) E1
   ·have gD:¬ ((tok s q).kind=115/\(tok s q).text.toList=({ data:=#[44] }:B8).toList):=λ h=>hc ⟨h.1,by rw[h.2,ByteArray.toList_eq]⟩
    rw[if_neg (λ h=>hc (K.k7.1 h)),znk cU gD,(zeq cU gD).1,(zeq cU gD).2,if_neg (by decide)]
    by_cases hs:(tok s q).kind=115/\(tok s q).text.toList=[46]
    ·have h8:=K.k8.2 hs;have oq:zZ s q 8=(zD s q).2.2:=(by unfold zZ;rw[if_pos (by simpa using h8)]);refine⟨λ _=>⟨q,ms++[dm s num p pd ts pl],rfl,h8,l4,oq,rfl,rfl,E1⟩,λ h=>by simp[h8] at h⟩
    ·have h8:¬ (zD s q).1=8:=λ h=>hs (K.k8.1 h)
     have oq:zZ s q 8=q:=(by unfold zZ;rw[if_neg (by simpa using h8)]);have im:¬ ((tok s q).kind=115/\(tok s q).text.toList=({ data:=#[46] }:B8).toList):=λ h=>hs ⟨h.1,by rw[h.2,ByteArray.toList_eq]⟩
     refine⟨λ h=>by simp[h8] at h,λ _=>?_⟩;simp only[oq];rw[ztr cU im,K.at_]
theorem z94 (s:B8)(num p:Nat)(bd:Int)(cU:bd<0)(hp:p<=s.size)(ms:List yT):
  ((xF s num p ms).1=true->∃ ms',zlw s p bd=(xF s num p ms).2.1/\zci s p bd=bd/\(xF s num p ms).2.1<=s.size/\(xF s num p ms).2.2.1=yM (zhq s p bd)/\(xF s num p ms).2.2.2=ms++ms'/\ca num (zhq s p bd).atoms ms') /\
  ((xF s num p ms).1=false->zci s p bd=((zD s (xF s num p ms).2.1).2.1:Int)):=by
 have A:=zsy s p bd cU hp;have K:=zet s p hp;unfold xF
 cases hr:yV s p with
 | no q=>
  rw[hr] at A;have h0:(0:Int)<=((zD s q).2.1:Int):=by omega
  refine⟨λ h=>by simp at h,λ _=>?_⟩;unfold zci za8;rw[show (yB s p bd).2.2=((zD s q).2.1:Int) from A,zer h0];simp only[Bool.false_eq_true,if_false];exact zj2 (zdl h0).2
 | yes q pd ts pl=>
  rw[hr] at A;obtain⟨a1,a2,a3,a4,a5⟩:=A;have pC:(yB s p bd).2.1=q:=by rw[a1]
  have pD:(yB s p bd).2.2=bd:=by rw[a1]
  have K2:=zet s q a5;have hrel:zi3 num (DT s p bd) (cL s num p pd ts pl):=⟨rfl,rfl,a2,a3,λ h=>by simp[DT] at h,K.at_,a4⟩
  by_cases hw:(tok s q).kind=115/\(tok s q).text.toList=[58,45]
  ·have uY:(tok s q).kind=115/\(tok s q).text.toList=({ data:=#[58,45] }:B8).toList:=⟨hw.1,by rw[hw.2,ByteArray.toList_eq]⟩;have h9:=K2.k9.2 hw;have h8:¬ (zD s q).1=8:=(by rw[h9];decide);have eB:za8 s p bd=zia s 4 (tok s q).to bd []:=by
    unfold za8;rw[pC,pD,(zgj cU).2 uY,(zep cU uY).1,(zep cU uY).2];rfl
   have zj:(tok s q).to<=s.size:=(by rw[<-K2.lL];exact (xA s q a5).2);have B:=z8x s num bd cU 3 (tok s q).to [] (ms++[cL s num p pd ts pl]) [] rfl zj (ca.nil num);rw[List.map_nil,List.append_nil] at B;simp only[if_neg h8,if_pos h9,K2.lL];refine⟨λ h=>?_,λ h=>?_⟩
   ·obtain⟨r,ms',b1,b2,b3,b4,b5,b6,b7⟩:=B.1 h;have K3:=zet s r b3;have hs:=K3.k8.1 b2;have im:(tok s r).kind=115/\(tok s r).text.toList=({ data:=#[46] }:B8).toList:=⟨hs.1,by rw[hs.2,ByteArray.toList_eq]⟩;have e1:(za8 s p bd).2.1=r:=(by rw[eB,b1]);have e2:(za8 s p bd).2.2=bd:=(by rw[eB,b1]);refine⟨cL s num p pd ts pl::ms',?_,?_,?_,?_,?_,?_⟩
    ·unfold zlw;rw[e1,e2,(zfg cU im).1,b4,K3.lL]
    ·unfold zci;rw[e1,e2,(zfg cU im).2]
    ·rw[b4];exact (xA s r b3).2
    ·rw[b5,<-eB];simp[yM,zhq,DT,a2,a3]
    ·rw[b6];simp
    ·rw[<-eB] at b7;exact ca.cons b7 hrel
   ·unfold zci;rw[eB];exact B.2 h
  ·have uY:¬ ((tok s q).kind=115/\(tok s q).text.toList=({ data:=#[58,45] }:B8).toList):=λ h=>hw ⟨h.1,by rw[h.2,ByteArray.toList_eq]⟩
   have h9:¬ (zD s q).1=9:=λ h=>hw (K2.k9.1 h)
   have eB:za8 s p bd=([],q,bd):=by
    unfold za8;rw[pC,pD,znk cU uY,(zeq cU uY).1,(zeq cU uY).2];rfl
   by_cases hs:(tok s q).kind=115/\(tok s q).text.toList=[46]
   ·have im:(tok s q).kind=115/\(tok s q).text.toList=({ data:=#[46] }:B8).toList:=⟨hs.1,by rw[hs.2,ByteArray.toList_eq]⟩;have h8:=K2.k8.2 hs;simp only[if_pos h8];refine⟨λ _=>⟨[cL s num p pd ts pl],?_,?_,(xA s q a5).2,?_,rfl,?_⟩,λ h=>by simp at h⟩
    ·unfold zlw;rw[eB];simp only;rw[(zfg cU im).1,K2.lL]
    ·unfold zci;rw[eB];simp only;rw[(zfg cU im).2]
    ·simp[yM,zhq,DT,eB,a2,a3]
    ·have:(zhq s p bd).atoms=[DT s p bd]:=by simp[zhq,yL.atoms,eB]
     rw[this];exact ca.cons (ca.nil num) hrel
   ·have im:¬ ((tok s q).kind=115/\(tok s q).text.toList=({ data:=#[46] }:B8).toList):=λ h=>hs ⟨h.1,by rw[h.2,ByteArray.toList_eq]⟩
    have h8:¬ (zD s q).1=8:=λ h=>hs (K2.k8.1 h)
    simp only[if_neg h8,if_neg h9];refine⟨λ h=>by simp at h,λ _=>?_⟩;unfold zci;rw[eB];simp only;rw[ztr cU im,K2.at_]
inductive jR:Nat->List yL->List yT->Prop where
 | nil (n:Nat):jR n [] []
 | cons {n:Nat} {R:yL} {rs:List yL} {ms ms':List yT} (h:ca n R.atoms ms) (t:jR (n+1) rs ms'):jR n (R::rs) (ms++ms')
theorem jR.snoc {n:Nat}{rs:List yL}(h:jR n rs ms):∀ {R:yL} {ms':List yT},ca (n+rs.length) R.atoms ms'->jR n (rs++[R]) (ms++ms'):=by
 induction h with
 | nil n=>
  intro R ms' hm;have:=jR.cons (rs:=[]) (ms':=[]) hm (jR.nil _);simpa using this
 | cons h t ih=>
  intro R ms' hm;rw[List.append_assoc,List.cons_append];refine jR.cons h (ih ?_);simpa[Nat.add_comm,Nat.add_left_comm,Nat.add_assoc] using hm
theorem z6b (s:B8)(bd:Int)(cU:bd<0):∀ (f p:Nat) (rs:List yL) (ms:List yT),rs.length+f=30->p<=s.size->jR 0 rs ms ->
  ((vF s (f+1) p (rs.map yM) ms).1=true->(zc7 s (f+1) p bd rs).2.2=bd/\(vF s (f+1) p (rs.map yM) ms).2.2.1=(zc7 s (f+1) p bd rs).1.map yM/\jR 0 (zc7 s (f+1) p bd rs).1 (vF s (f+1) p (rs.map yM) ms).2.2.2) /\
  ((vF s (f+1) p (rs.map yM) ms).1=false->(zc7 s (f+1) p bd rs).2.2=((zD s (vF s (f+1) p (rs.map yM) ms).2.1).2.1:Int)):=by
 intro f
 induction f with
 | zero=>
  intro p rs ms hl hp hT;have K:=zet s p hp;rw[vF,zc7]
  by_cases h0:(zD s p).1=0
  ·have hg:zd8 s p bd=false:=(by unfold zd8;simp[K.k0.1 h0]);rw[if_pos h0,hg,if_neg (by decide)];exact⟨λ _=>⟨rfl,rfl,hT⟩,λ h=>by simp at h⟩
  ·have hg:zd8 s p bd=true:=(by unfold zd8;simp[cU];exact λ h=>h0 (K.k0.2 h));rw[if_neg h0,if_pos (by simp;omega),hg,if_pos rfl];refine⟨λ h=>by simp at h,λ _=>?_⟩;have e:zdz s p bd rs.length=((tok s p).at_:Int):=by
    unfold zdz;rw[if_pos (by simp;omega),zg5 cU]
   have oa:(0:Int)<=((tok s p).at_:Int):=(by omega);simp only[zc7,e];unfold zci;have hb:(za8 s p ((tok s p).at_:Int)).2.2=((tok s p).at_:Int):=by
    unfold za8;rw[zux oa,zer oa,(zdl oa).1,(zdl oa).2];rfl
   rw[zj2 hb,K.at_]
 | succ f ih=>
  intro p rs ms hl hp hT;have K:=zet s p hp;rw[vF,zc7]
  by_cases h0:(zD s p).1=0
  ·have hg:zd8 s p bd=false:=(by unfold zd8;simp[K.k0.1 h0]);rw[if_pos h0,hg,if_neg (by decide)];exact⟨λ _=>⟨rfl,rfl,hT⟩,λ h=>by simp at h⟩
  ·have hg:zd8 s p bd=true:=(by unfold zd8;simp[cU];exact λ h=>h0 (K.k0.2 h));have e:zdz s p bd rs.length=bd:=(by unfold zdz;rw[if_neg (by simp;omega)]);rw[if_neg h0,if_neg (by simp;omega),hg,if_pos rfl,e,List.length_map];have R:=z94 s rs.length p bd cU hp ms
   cases hr:(xF s rs.length p ms).1 with
   | true=>
    obtain⟨ms',r1,r2,r3,r4,r5,r6⟩:=R.1 hr;rw[if_pos rfl,r1,r2,r4,r5];have e2:rs.map yM++[yM (zhq s p bd)]=(rs++[zhq s p bd]).map yM:=(by simp);rw[e2];exact ih _ _ _ (by simp;omega) r3 (hT.snoc (by simpa using r6))
   | false=>
    have hb:=R.2 hr;rw[if_neg (by decide)];refine⟨λ h=>by simp at h,λ _=>?_⟩;have oa:zd8 s (zlw s p bd) (zci s p bd)=false:=(by unfold zd8;rw[hb];simp);rw[z2i _ _ _ _ _ oa];exact hb
def zN (s:B8):Bool × Nat × List yK × List yT:=vF s 31 0 [] []
theorem zhj (s:B8):
  ((zN s).1=true->(vA s).2.2=-1/\(zN s).2.2.1=(vA s).1.map yM/\jR 0 (vA s).1 (zN s).2.2.2) /\
  ((zN s).1=false->(vA s).2.2=((zD s (zN s).2.1).2.1:Int)):=
 z6b s (-1) (by decide) 30 0 [] [] rfl (Nat.zero_le _) (jR.nil 0)
end
end Go.Proofs.YtldkpahaocjdpaaGreat
