/-
  Plain: a square table of marks, as the reference's hangs makes it in memory: a row of slices, and behind it, block by block, the rows.
-/
import Derived.Test.YtldkpahaocjdpaaGreatD09
set_option maxHeartbeats 16000000
set_option maxRecDepth 1000000
namespace Go.Proofs.YtldkpahaocjdpaaGreat
section
open Go.RowKit
def upd (M:Nat->Nat->Bool)(i j:Nat):Nat->Nat->Bool:=λ a b=>(decide (a=i)&&decide (b=j))||M a b
theorem z6h:(Tryz.prog.info? 4).map (λ i=>(i.zero,i.size,i.bytes))=some (some (.bool false),1,1):=by kernel_rfl
theorem z1c:(Tryz.prog.info? 143).map (λ i=>(i.zero,i.size,i.bytes))=some (some (.slice none 0 0),1,24):=by kernel_rfl
theorem yc5 (n:Nat)(hn:n<=1000)(u:W8):(Instr.makeSlice 314 (.int .i64 n) (.int .i64 n)).run Tryz.prog u=.ok (.slice (some ⟨u.heap.size,0,none⟩) n n) (u.alloc (.cells (madeCells #[.slice none 0 0] n) 143)):=by
 obtain⟨i0,hi,dK,cB,bZ⟩:=info_parts z1c;have h:=run_make (P:=Tryz.prog) u 314 143 i0 (.slice none 0 0) Tryz.underlying314 hi dK .i64 .i64 (n:Int) (n:Int) (by omega) (Int.le_refl _) (by rw[bZ];omega) (by omega);simpa[cB,Value.cells] using h
theorem z6o (n:Nat)(hn:n<=1000)(u:W8):(Instr.makeSlice 143 (.int .i64 n) (.int .i64 n)).run Tryz.prog u=.ok (.slice (some ⟨u.heap.size,0,none⟩) n n) (u.alloc (.cells (madeCells #[.bool false] n) 4)):=by
 obtain⟨i0,hi,dK,cB,bZ⟩:=info_parts z6h;have h:=run_make (P:=Tryz.prog) u 143 4 i0 (.bool false) Tryz.underlying143 hi dK .i64 .i64 (n:Int) (n:Int) (by omega) (Int.le_refl _) (by rw[bZ];omega) (by omega);simpa[cB,Value.cells] using h
theorem z6n (z:Value)(n i:Nat)(h:i<n):(madeCells #[z] n)[i]?=some z:=by
 have:=toList_madeCells_one z n;rw[<-Array.getElem?_toList,this,List.getElem?_replicate,if_pos h]
end
section
open Go.RowKit
def zcs (ps:P9)(nm:B8):Nat:=(xK ps nm).toNat
def zq8 (ps:P9)(h:Nat):List yR->(Nat->Nat->Bool)->(Nat->Nat->Bool)
 | [],M=>M
 | A::r,M=>zq8 ps h r (upd M h (zcs ps A.pred))
def zts (ps:P9):List yN->(Nat->Nat->Bool)->(Nat->Nat->Bool)
 | [],M=>M
 | R::r,M=>zts ps r (zq8 ps (zcs ps R.head.pred) R.body M)
def fwK (n m i:Nat)(M:Nat->Nat->Bool)(k:Nat):Nat->Nat->Bool:=
 if k<n then fwK n m i (if M i m&&M m k then upd M i k else M) (k+1) else M
termination_by n-k
def fwI (n m:Nat)(M:Nat->Nat->Bool)(i:Nat):Nat->Nat->Bool:=
 if i<n then fwI n m (fwK n m i M 0) (i+1) else M
termination_by n-i
def fwM (n:Nat)(M:Nat->Nat->Bool)(m:Nat):Nat->Nat->Bool:=
 if m<n then fwM n (fwI n m M 0) (m+1) else M
termination_by n-m
variable {k n m i:Nat} {M:Nat->Nat->Bool}
theorem ycy (h:k<n):fwK n m i M k=fwK n m i (if M i m&&M m k then upd M i k else M) (k+1):=by rw[fwK,if_pos h]
theorem yaj (h:¬ k<n):fwK n m i M k=M:=by rw[fwK,if_neg h]
theorem ycw (h:i<n):fwI n m M i=fwI n m (fwK n m i M 0) (i+1):=by rw[fwI,if_pos h]
theorem yai (h:¬ i<n):fwI n m M i=M:=by rw[fwI,if_neg h]
theorem z87 (h:m<n):fwM n M m=fwM n (fwI n m M 0) (m+1):=by rw[fwM,if_pos h]
theorem z07 (h:¬ m<n):fwM n M m=M:=by rw[fwM,if_neg h]
def qW (ps:P9)(rs:List yN):Nat->Nat->Bool:=fwM ps.length (zts ps rs (λ _ _=>false)) 0
def ztb (ps:P9)(l:List yR):Prop:=∀ A∈l,0<=xK ps A.pred
end
section
open Go.RowKit
def zxi (ps:P9)(H:Nat->Nat->Bool)(hd:B8)(A:yR):Bool:=A.no&&(xK ps A.pred==xK ps hd||H (zcs ps A.pred) (zcs ps hd))
def zer (ps:P9)(H:Nat->Nat->Bool)(hd:B8):List yR->Int
 | []=>-1
 | A::r=>if zxi ps H hd A then A.rz else zer ps H hd r
def zed (ps:P9)(H:Nat->Nat->Bool):List yN->Int
 | []=>-1
 | R::r=>if 0<=zer ps H R.head.pred R.body then zer ps H R.head.pred R.body else zed ps H r
end
section
open Go.RowKit
def yce (ps:P9)(f:Nat->Nat)(hd:B8)(A:yR):Prop:=f (zcs ps A.pred)+(if A.no then 1 else 0)<=f (zcs ps hd)
def ycl (ps:P9)(rs:List yN)(f:Nat->Nat):Prop:=∀ R∈rs,∀ A∈R.body,yce ps f R.head.pred A
def fI (S:Nat->Nat)(i v:Nat):Nat->Nat:=λ a=>if a=i then v else S a
theorem zld (n:Nat)(hn:n<=1000)(u:W8):(Instr.makeSlice 24 (.int .i64 n) (.int .i64 n)).run Tryz.prog u=.ok (.slice (some ⟨u.heap.size,0,none⟩) n n) (u.alloc (.cells (madeCells #[.int .i64 0] n) 3)):=by
 obtain⟨i0,hi,dK,cB,bZ⟩:=info_parts z1d;have h:=run_make (P:=Tryz.prog) u 24 3 i0 (.int .i64 0) Tryz.underlying24 hi dK .i64 .i64 (n:Int) (n:Int) (by omega) (Int.le_refl _) (by rw[bZ];omega) (by omega);simpa[cB,Value.cells] using h
end
section
open Go.RowKit
def zd4 (s:B8)(p:Nat)(bd:Int)(n:Nat):Int:=if n==30 then zjy s p bd else bd
def zh2 (s:B8)(p:Nat)(bd:Int):yN:=⟨KS s p bd,(zbh s p bd).1⟩
def zee (s:B8)(p:Nat)(bd:Int):Bool:=(tok s p).kind != 46&&decide (bd<0)
def zdb (s:B8):Nat->Nat->Int->List yN->List yN × Nat × Int
 | 0,p,bd,l=>(l,p,bd)
 | f+1,p,bd,l=>if zee s p bd then zdb s f (zl3 s p (zd4 s p bd l.length)) (zco s p (zd4 s p bd l.length)) (l++[zh2 s p (zd4 s p bd l.length)]) else (l,p,bd)
theorem z3i (s:B8)(f p:Nat)(bd:Int)(l:List yN)(hg:zee s p bd=false):zdb s f p bd l=(l,p,bd):=by
 cases f with
 | zero=>rfl
 | succ f=>rw[zdb,if_neg (by rw[hg];decide)]
def vA (s:B8):List yN × Nat × Int:=zdb s 31 0 (-1) []
def zH (s:B8):Int × P9:=zaw ((vA s).1.flatMap yN.atoms) []
def xJ (s:B8):Bool × Int × Int:=
 if 800<s.size then (false,1,0)
 else if 0<=(vA s).2.2 then (false,2,(vA s).2.2)
 else if 0<=(zH s).1 then (false,3,(zH s).1)
 else if 0<=zbf (vA s).1 then (false,4,zbf (vA s).1)
 else if 0<=zed (zH s).2 (qW (zH s).2 (vA s).1) (vA s).1 then (false,5,zed (zH s).2 (qW (zH s).2 (vA s).1) (vA s).1)
 else (true,0,0)
end
section
theorem z4d (s:B8)(i:Nat):(tok s i).kind=46\/(tok s i).kind=33\/((tok s i).kind=110/\(tok s i).text=s.extract (tok s i).at_ (tok s i).to)\/((tok s i).kind=118/\(tok s i).text=s.extract (tok s i).at_ (tok s i).to)\/(tok s i).kind=119 \/
  ((tok s i).kind=115/\((tok s i).text.toList=[40]\/(tok s i).text.toList=[41]\/(tok s i).text.toList=[44]\/(tok s i).text.toList=[46]\/(tok s i).text.toList=[58,45])):=by
 unfold tok;generalize skip yH s i=k;unfold z4c
 by_cases h0:s.size<=k
 ·simp[h0]
 ·rw[if_neg h0]
  by_cases h1:k<skip jJ s k
  ·rw[if_pos h1]
   split
   ·simp
   ·split <;> simp
  ·rw[if_neg h1]
   by_cases h2:k<skip yZ s k
   ·rw[if_pos h2]
    split <;> simp
   ·rw[if_neg h2]
    by_cases h3:zai s k=0
    ·rw[if_pos h3];simp
    ·rw[if_neg h3]
     by_cases h4:zai s k=2
     ·rw[if_pos h4];have:({ data:=#[58,45] }:B8).toList=[58,45]:=by rw[ByteArray.toList_eq]
      simp[this]
     ·rw[if_neg h4];have hk:k<s.size:=(by omega);have t1:=ztv s k hk;simp only[t1];have hs:(s[k].toNat:Int)=40\/(s[k].toNat:Int)=41\/(s[k].toNat:Int)=44\/(s[k].toNat:Int)=46:=by
       unfold zai at h3 h4;rw[dif_pos hk] at h3 h4
       by_cases hc:(s[k].toNat:Int)=58
       ·rw[if_pos hc] at h3 h4
        by_cases hd:k+1<s.size
        ·rw[dif_pos hd] at h3 h4
         by_cases he:(s[k+1].toNat:Int)=45
         ·rw[if_pos he] at h4;exact absurd rfl h4
         ·rw[if_neg he] at h3;exact absurd rfl h3
        ·rw[dif_neg hd] at h3;exact absurd rfl h3
       ·rw[if_neg hc] at h3
        by_cases hd:(s[k].toNat:Int)=40\/(s[k].toNat:Int)=41\/(s[k].toNat:Int)=44\/(s[k].toNat:Int)=46
        ·exact hd
        ·rw[if_neg hd] at h3;exact absurd rfl h3
      have u:∀ c:UInt8,(s[k].toNat:Int)=(c.toNat:Int)->s[k]=c:=λ c h=>(ybs _ _).2 h
      rcases hs with h | h | h | h
      ·simp[u 40 h]
      ·simp[u 41 h]
      ·simp[u 44 h]
      ·simp[u 46 h]
structure z9r (s:B8)(p:Nat):Prop where
 k0:(zD s p).1=0↔(tok s p).kind=46
 k2:(zD s p).1=2↔(tok s p).kind=110
 k3:(zD s p).1=3↔(tok s p).kind=118
 k4:(zD s p).1=4↔(tok s p).kind=119
 k5:(zD s p).1=5↔((tok s p).kind=115/\(tok s p).text.toList=[40])
 k6:(zD s p).1=6↔((tok s p).kind=115/\(tok s p).text.toList=[41])
 k7:(zD s p).1=7↔((tok s p).kind=115/\(tok s p).text.toList=[44])
 k8:(zD s p).1=8↔((tok s p).kind=115/\(tok s p).text.toList=[46])
 k9:(zD s p).1=9↔((tok s p).kind=115/\(tok s p).text.toList=[58,45])
 at_:(zD s p).2.1=(tok s p).at_
 lL:(zD s p).2.2=(tok s p).to
 word:(tok s p).kind=110\/(tok s p).kind=118->yT s p=(tok s p).text
theorem ze0 (s:B8)(p:Nat)(hp:p<=s.size):z9r s p:=by
 have h:=z4d s p;have e:=z7p s p hp;have e1:(zD s p).1=zza (tok s p):=by rw[e]
 have e2:(zD s p).2.1=(tok s p).at_:=by rw[e]
 have e3:(zD s p).2.2=(tok s p).to:=by rw[e]
 have hw:(tok s p).kind=110\/(tok s p).kind=118->yT s p=(tok s p).text:=by
  intro hk;unfold yT;rw[e2,e3];rcases h with h | h | h | h | h | h
  ·omega
  ·omega
  ·exact h.2.symm
  ·exact h.2.symm
  ·omega
  ·omega
 refine⟨?_,?_,?_,?_,?_,?_,?_,?_,?_,e2,e3,hw⟩
 all_goals
  rw[e1];unfold zza;rcases h with h | h | h | h | h | ⟨h,h' | h' | h' | h' | h'⟩
  all_goals first | (simp[h,h'];done) | (simp[h.1];done) | (simp[h];done)
end
section
variable {bd:Int} {p:Nat} {s:B8}
theorem zfx (h:0<=bd):jW s p bd=bd/\fm s p bd=p:=by
 have e:zjy s p bd=bd:=by unfold zjy;rw[if_neg (by omega)]
 have e1:jW s p bd=bd:=by unfold jW;split;exact e;rfl
 exact⟨e1,by unfold fm;rw[e1,if_neg (by omega)]⟩
theorem zvv (h:0<=bd):zjy s p bd=bd:=by unfold zjy;rw[if_neg (by omega)]
variable {wd:B8}
theorem zey (h:0<=bd):isS s p bd wd=false:=by
 unfold isS;simp;intro h1;omega
theorem zdp (h:0<=bd):zbz s p bd wd=p/\zby s p bd wd=bd:=by
 unfold zbz zby;rw[zey h];exact⟨rfl,rfl⟩
theorem zwa (h:0<=bd):jK s p bd wd=bd:=by
 unfold jK;rw[zey h];exact zvv h
theorem zvg (h:0<=bd):(yD s p bd).2.2=bd:=by
 have e1:zcd s p bd=bd:=by unfold zcd;split;exact zvv h;rfl
 have e2:zac s p bd=bd:=by unfold zac;rw[e1];exact (zfx h).1
 unfold yD;rw[e2,zey h];exact (zdp h).2
theorem yas (h:0<=bd):(xM s p bd).2=bd:=by
 have e1:zrj s p bd=false:=by unfold zrj;simp;intro h1;omega
 unfold xM zng zjp;rw[e1];exact zvg h
theorem zfw (h:bd<0)(h1:(tok s p).kind≠33)(h2:(tok s p).kind≠46):jW s p bd=bd/\fm s p bd=(tok s p).to:=by
 have e1:jW s p bd=bd:=by unfold jW;rw[if_neg (by simp[h1,h2])]
 exact⟨e1,by unfold fm;rw[e1,if_pos h]⟩
theorem zhj (h:bd<0):zjy s p bd=(tok s p).at_:=by unfold zjy;rw[if_pos h]
theorem zgu (h:bd<0):isS s p bd wd=true↔((tok s p).kind=115/\(tok s p).text.toList=wd.toList):=by
 unfold isS;simp[h]
theorem znd (h:bd<0)(hn:¬ ((tok s p).kind=115/\(tok s p).text.toList=wd.toList)):isS s p bd wd=false:=by
 cases e:isS s p bd wd with
 | false=>rfl
 | true=>exact absurd ((zgu h).1 e) hn
theorem zev (h:bd<0)(hy:(tok s p).kind=115/\(tok s p).text.toList=wd.toList):zbz s p bd wd=(tok s p).to/\zby s p bd wd=bd:=by
 have e:=(zgu (wd:=wd) h).2 hy;have t:=zfw h (by rw[hy.1];decide) (by rw[hy.1];decide);unfold zbz zby;rw[e];exact⟨t.2,t.1⟩
theorem zew (h:bd<0)(hn:¬ ((tok s p).kind=115/\(tok s p).text.toList=wd.toList)):zbz s p bd wd=p/\zby s p bd wd=bd:=by
 unfold zbz zby;rw[znd h hn];exact⟨rfl,rfl⟩
theorem zdn (c:UInt8):(chr c).toList=[c]:=by
 rw[ByteArray.toList_eq]
def aR (t:zef):Bool × B8:=(t.isVar,t.text)
variable {l:List zef}
theorem zn1 (f:Nat)(h:bd<0)(hn:¬ ((tok s p).kind=110\/(tok s p).kind=118)\/l.length=4):(zb7 s (f+1) p bd l).2.2=(tok s p).at_:=by
 have e:zg6 s p bd l.length=(tok s p).at_:=by
  unfold zg6;rw[if_pos,zhj h];rcases hn with hn | hn
  ·simp[not_or.1 hn]
  ·simp[hn]
 have h0:(0:Int)<=(tok s p).at_:=by omega
 rw[zb7];simp only[e,(zfx h0).1,(zfx h0).2,zey h0,(zdp h0).1,(zdp h0).2,zwa h0];rfl
theorem z78 (f:Nat)(h:bd<0)(hk:(tok s p).kind=110\/(tok s p).kind=118)(hl:l.length≠4)(hc:(tok s (tok s p).to).kind=115/\(tok s (tok s p).to).text.toList=[44]):
  zb7 s (f+1) p bd l=zb7 s f (tok s (tok s p).to).to bd (l++[zh4 s p]):=by
 have e:zg6 s p bd l.length=bd:=by
  unfold zg6;rw[if_neg];rcases hk with hk | hk <;> simp[hk,hl]
 have t:=zfw h (p:=p) (s:=s) (by rcases hk with hk | hk <;> rw[hk] <;> decide) (by rcases hk with hk | hk <;> rw[hk] <;> decide);rw[<-zdn] at hc;rw[zb7];simp only[e,t.1,t.2,(zev h hc).1,(zev h hc).2,(zgu h).2 hc,if_true]
theorem z34 (f:Nat)(h:bd<0)(hk:(tok s p).kind=110\/(tok s p).kind=118)(hl:l.length≠4)(hc:¬ ((tok s (tok s p).to).kind=115/\(tok s (tok s p).to).text.toList=[44])):
  zb7 s (f+1) p bd l=(l++[zh4 s p],fm s (tok s p).to (jK s (tok s p).to bd (chr 41)),jW s (tok s p).to (jK s (tok s p).to bd (chr 41))):=by
 have e:zg6 s p bd l.length=bd:=by
  unfold zg6;rw[if_neg];rcases hk with hk | hk <;> simp[hk,hl]
 have t:=zfw h (p:=p) (s:=s) (by rcases hk with hk | hk <;> rw[hk] <;> decide) (by rcases hk with hk | hk <;> rw[hk] <;> decide);rw[<-zdn] at hc;rw[zb7];simp only[e,t.1,t.2,(zew h hc).1,(zew h hc).2,znd h hc];rfl
theorem zfp (h:bd<0)(hy:(tok s p).kind=115/\(tok s p).text.toList=wd.toList):fm s p (jK s p bd wd)=(tok s p).to/\jW s p (jK s p bd wd)=bd:=by
 have t:=zfw h (by rw[hy.1];decide) (by rw[hy.1];decide);unfold jK;rw[(zgu h).2 hy];exact⟨t.2,t.1⟩
theorem zt9 (h:bd<0)(hn:¬ ((tok s p).kind=115/\(tok s p).text.toList=wd.toList)):jW s p (jK s p bd wd)=(tok s p).at_:=by
 unfold jK;rw[znd h hn];simp only[Bool.false_eq_true,if_false,zhj h];exact (zfx (by omega)).1
theorem zy3 {pl:Nat->Nat}{t:zef}(dP:∀ i (h:i<l.length),pl i=(l[i]).at_):∀ i (h:i<(l++[t]).length),dL pl l.length t.at_ i=((l++[t])[i]).at_:=by
 intro i h
 by_cases e:i=l.length
 ·subst e;simp[dL]
 ·have h1:i<l.length:=by simp at h;omega
  rw[List.getElem_append_left h1];simp[dL,e,dP i h1]
theorem z75 (s:B8)(bd:Int)(cU:bd<0):∀ (f p:Nat) (l:List zef) (pl:Nat->Nat),l.length+f=4->p<=s.size->(∀ i (h:i<l.length),pl i=(l[i]).at_) ->
  ((zR s f p (l.map aR) pl).1=true->(zb7 s (f+1) p bd l).2=((zR s f p (l.map aR) pl).2.1,bd)/\(zR s f p (l.map aR) pl).2.2.1=(zb7 s (f+1) p bd l).1.map aR/\(∀ i (h:i<(zb7 s (f+1) p bd l).1.length),(zR s f p (l.map aR) pl).2.2.2 i=((zb7 s (f+1) p bd l).1[i]).at_)/\(zR s f p (l.map aR) pl).2.1<=s.size) /\
  ((zR s f p (l.map aR) pl).1=false->(zb7 s (f+1) p bd l).2.2=((zD s (zR s f p (l.map aR) pl).2.1).2.1:Int)):=by
 intro f
 induction f with
 | zero=>
  intro p l pl hl hp _;refine⟨λ h=>by simp[zR] at h,λ _=>?_⟩;rw[zn1 0 cU (.inr (by omega))];simp only[zR];rw[(ze0 s p hp).at_]
 | succ f ih=>
  intro p l pl hl hp dP;have K:=ze0 s p hp;have IW:(tok s p).to<=s.size:=by rw[<-K.lL];exact (xD s p hp).2
  have K2:=ze0 s (tok s p).to IW;have rm:(tok s (tok s p).to).to<=s.size:=by rw[<-K2.lL];exact (xD s _ IW).2
  by_cases hk:(tok s p).kind=110\/(tok s p).kind=118
  ·have kg:(zD s p).1=2\/(zD s p).1=3:=(by rw[K.k2,K.k3];exact hk);have zv:(l.map aR)++[(decide ((zD s p).1=3),yT s p)]=(l++[zh4 s p]).map aR:=by
    rw[List.map_append];simp only[List.map_cons,List.map_nil,aR,zh4];rw[K.word hk];have:decide ((zD s p).1=3)=((tok s p).kind==118):=by
     rw[Bool.eq_iff_iff];simp[K.k3]
    rw[this]
   have sM:∀ i (h:i<(l++[zh4 s p]).length),dL pl l.length (zD s p).2.1 i=((l++[zh4 s p])[i]).at_:=by
    rw[K.at_];exact zy3 (t:=zh4 s p) dP
   rw[zR,if_pos kg,K.lL,zv,List.length_map]
   by_cases hc:(tok s (tok s p).to).kind=115/\(tok s (tok s p).to).text.toList=[44]
   ·rw[if_pos (K2.k7.2 hc),K2.lL,z78 (f+1) cU hk (by omega) hc];exact ih _ _ _ (by simp;omega) rm sM
   ·rw[if_neg (λ e=>hc (K2.k7.1 e)),z34 (f+1) cU hk (by omega) hc]
    by_cases hs:(tok s (tok s p).to).kind=115/\(tok s (tok s p).to).text.toList=[41]
    ·have hr:yB s (tok s p).to 6=(tok s (tok s p).to).to:=(by unfold yB;rw[K2.k6.2 hs];exact K2.lL);rw[<-zdn] at hs;refine⟨λ _=>⟨?_,rfl,sM,by simp only[hr];exact rm⟩,λ h=>?_⟩
     ·simp only[(zfp cU hs).1,(zfp cU hs).2,hr]
     ·rw[zdn] at hs;simp[K2.k6.2 hs] at h
    ·have h6:¬ (zD s (tok s p).to).1=6:=λ e=>hs (K2.k6.1 e)
     have hr:yB s (tok s p).to 6=(tok s p).to:=(by unfold yB;rw[if_neg (by simpa using h6)]);rw[<-zdn] at hs;refine⟨λ h=>by simp[h6] at h,λ _=>?_⟩;simp only[zt9 cU hs,hr];rw[K2.at_]
  ·have kg:¬ ((zD s p).1=2\/(zD s p).1=3):=(by rw[K.k2,K.k3];exact hk);rw[zR,if_neg kg];refine⟨λ h=>by simp at h,λ _=>?_⟩;rw[zn1 (f+1) cU (.inl hk)];simp only;rw[K.at_]
def zqg (s:B8)(p:Nat)(bd:Int)(r:ydp):Prop:=
 match r with
 | .no q=>(yD s p bd).2.2=((zD s q).2.1:Int)
 | .yes q pd ts pl=>(yD s p bd).2=(q,bd)/\pd=(tok s p).text/\ts=(yD s p bd).1.map aR/\(∀ i (h:i<(yD s p bd).1.length),pl i=((yD s p bd).1[i]).at_)/\q<=s.size
theorem zth (s:B8)(p:Nat)(bd:Int)(cU:bd<0)(hp:p<=s.size):zqg s p bd (yV s p):=by
 have K:=ze0 s p hp;have IW:(tok s p).to<=s.size:=by rw[<-K.lL];exact (xD s p hp).2
 have K2:=ze0 s (tok s p).to IW;have rm:(tok s (tok s p).to).to<=s.size:=by rw[<-K2.lL];exact (xD s _ IW).2
 unfold yV
 by_cases hk:(tok s p).kind=110
 ·rw[if_pos (K.k2.2 hk),K.lL,K.word (.inl hk)];have b1:zcd s p bd=bd:=by unfold zcd;simp[hk]
  have t:=zfw cU (p:=p) (s:=s) (by rw[hk];decide) (by rw[hk];decide);have b2:zac s p bd=bd:=by unfold zac;rw[b1];exact t.1
  have p2:zce s p bd=(tok s p).to:=by unfold zce;rw[b1];exact t.2
  by_cases ho:(tok s (tok s p).to).kind=115/\(tok s (tok s p).to).text.toList=[40]
  ·rw[if_pos (K2.k5.2 ho),K2.lL];have e:yD s p bd=zb7 s 5 (tok s (tok s p).to).to bd []:=by
    rw[<-zdn] at ho;unfold yD;rw[b2,p2,(zgu cU).2 ho,(zev cU ho).1,(zev cU ho).2];rfl
   have T:=z75 s bd cU 4 (tok s (tok s p).to).to [] (λ _=>0) rfl rm (by simp);rw[List.map_nil] at T
   cases hP:(zR s 4 (tok s (tok s p).to).to [] (λ _=>0)).1 with
   | true=>
    rw[if_pos rfl];obtain⟨t1,t2,t3,t4⟩:=T.1 hP;unfold zqg;simp only[e];exact⟨t1,trivial,t2,t3,t4⟩
   | false=>
    rw[if_neg (by decide)];unfold zqg;simp only[e];exact T.2 hP
  ·rw[if_neg (λ h=>ho (K2.k5.1 h))];have e:yD s p bd=([],(tok s p).to,bd):=by
    rw[<-zdn] at ho;unfold yD;rw[b2,p2,znd cU ho,(zew cU ho).1,(zew cU ho).2];rfl
   unfold zqg;simp only[e];exact⟨trivial,trivial,by simp,by simp,IW⟩
 ·rw[if_neg (λ h=>hk (K.k2.1 h))];unfold zqg;have b1:zcd s p bd=(tok s p).at_:=by unfold zcd;simp[hk,zhj cU]
  have h0:(0:Int)<=(tok s p).at_:=by omega
  have b2:zac s p bd=(tok s p).at_:=by unfold zac;rw[b1];exact (zfx h0).1
  simp only;rw[K.at_];unfold yD;rw[b2,zey h0];exact (zdp (s:=s) (wd:=chr 40) (p:=zce s p bd) h0).2
end
section
structure zjd (num:Nat)(A:yR)(M:yU):Prop where
 num:M.num=num
 neg:M.neg=A.no
 pd:M.pd=A.pred
 ts:M.ts=A.aS.map aR
 start:A.no=true->M.start=A.rz
 place:M.place=A.at_
 pl:∀ i (h:i<A.aS.length),M.pl i=(A.aS[i]).at_
def bl (A:yR):yX:=⟨A.no,A.pred,A.aS.map aR⟩
def yO (R:yN):yG:=⟨R.head.pred,R.head.aS.map aR,R.body.map bl⟩
def cI (num:Nat)(l:List yR)(ms:List yU):Prop:=∃ q:List (yR × yU),q.map (·.1)=l/\q.map (·.2)=ms/\∀ x∈q,zjd num x.1 x.2
theorem cI.nil (num:Nat):cI num [] []:=⟨[],rfl,rfl,by simp⟩
variable {M:yU} {A:yR} {ms:List yU} {l:List yR}
theorem cI.snoc {num:Nat}(h:cI num l ms)(hm:zjd num A M):cI num (l++[A]) (ms++[M]):=by
 obtain⟨q,h1,h2,h3⟩:=h;refine⟨q++[(A,M)],by simp[h1],by simp[h2],λ x hx=>?_⟩;rcases List.mem_append.1 hx with hx | hx
 ·exact h3 x hx
 ·simp at hx;subst hx;exact hm
theorem cI.cons {num:Nat}(h:cI num l ms)(hm:zjd num A M):cI num (A::l) (M::ms):=by
 obtain⟨q,h1,h2,h3⟩:=h;refine⟨(A,M)::q,by simp[h1],by simp[h2],λ x hx=>?_⟩;rcases List.mem_cons.1 hx with hx | hx
 ·subst hx;exact hm
 ·exact h3 x hx
theorem z1v (s:B8)(p:Nat)(bd:Int)(cU:bd<0)(hp:p<=s.size):zrj s p bd=((zD s p).1==4)/\zjp s p bd=yB s p 4/\zng s p bd=bd:=by
 have K:=ze0 s p hp;have e:zrj s p bd=((zD s p).1==4):=by
  unfold zrj;rw[Bool.eq_iff_iff];simp[cU,K.k4]
 by_cases h:(zD s p).1=4
 ·have hk:=K.k4.1 h;have t:=zfw cU (p:=p) (s:=s) (by rw[hk];decide) (by rw[hk];decide);have hb:((zD s p).1==4)=true:=by simpa using h
  refine⟨e,?_,?_⟩
  ·unfold zjp yB;rw[e,if_pos hb,if_pos hb,t.2,K.lL]
  ·unfold zng;rw[e,if_pos hb,t.1]
 ·have hb:¬ ((zD s p).1==4)=true:=by simpa using h
  refine⟨e,?_,?_⟩
  ·unfold zjp yB;rw[e,if_neg hb,if_neg hb]
  ·unfold zng;rw[e,if_neg hb]
variable {p:Nat} {s:B8}
theorem zsl {k:Int}(h:p<=s.size):yB s p k<=s.size:=by
 unfold yB;split
 ·exact (xD s p h).2
 ·exact h
theorem yc3 (s:B8)(num p:Nat)(bd:Int)(cU:bd<0)(hp:p<=s.size):
  match yV s (yB s p 4) with
  | .no q=>(xM s p bd).2=((zD s q).2.1:Int)
  | .yes q pd ts pl=>xM s p bd=(q,bd)/\dM s p pd ts=bl (ze3 s p bd)/\zjd num (ze3 s p bd) (dO s num p pd ts pl)/\q<=s.size:=by
 obtain⟨f1,f2,f3⟩:=z1v s p bd cU hp;have A:=zth s (yB s p 4) bd cU (zsl hp);have K:=ze0 s p hp;have K2:=ze0 s (yB s p 4) (zsl hp);unfold xM ze3;rw[f1,f2,f3]
 cases hr:yV s (yB s p 4) with
 | no q=>rw[hr] at A;exact A
 | yes q pd ts pl=>
  rw[hr] at A;obtain⟨a1,a2,a3,a4,a5⟩:=A;refine⟨a1,by simp[dM,bl,a2,a3],⟨rfl,rfl,a2,a3,λ _=>K.at_,K2.at_,a4⟩,a5⟩
theorem zvi (s:B8)(f p:Nat)(bd:Int)(l:List yR):zig s (f+1) p bd l =
  if isS s (xM s p (xA s p bd l.length)).1 (xM s p (xA s p bd l.length)).2 { data:=#[44] } then
   zig s f (zbz s (xM s p (xA s p bd l.length)).1 (xM s p (xA s p bd l.length)).2 { data:=#[44] }) (zby s (xM s p (xA s p bd l.length)).1 (xM s p (xA s p bd l.length)).2 { data:=#[44] }) (l++[ze3 s p (xA s p bd l.length)])
  else (l++[ze3 s p (xA s p bd l.length)],zbz s (xM s p (xA s p bd l.length)).1 (xM s p (xA s p bd l.length)).2 { data:=#[44] },zby s (xM s p (xA s p bd l.length)).1 (xM s p (xA s p bd l.length)).2 { data:=#[44] }):=by rw[zig]
theorem zvj (s:B8)(f p:Nat)(bd:Int)(l:List yR)(a:Nat)(h:(xM s p (xA s p bd l.length)).2=(a:Int)):(zig s (f+1) p bd l).2.2=(a:Int):=by
 have h0:(0:Int)<=(a:Int):=by omega
 rw[zvi,h,zey h0,(zdp h0).1,(zdp h0).2];rfl
theorem zka {bd:Int}{a:Nat}{wd:B8}(h:bd=(a:Int)):jW s p (jK s p bd wd)=(a:Int):=by
 have h0:(0:Int)<=(a:Int):=by omega
 subst h;rw[zwa h0];exact (zfx h0).1
theorem z94 (s:B8)(num:Nat)(bd:Int)(cU:bd<0):∀ (f p:Nat) (l:List yR) (fE ms:List yU),l.length+f=3->p<=s.size->cI num l ms ->
  ((vB s num f p (l.map bl) (fE++ms)).1=true->∃ q ms',(zig s (f+1) p bd l).2=(q,bd)/\(zD s q).1=8/\q<=s.size/\(vB s num f p (l.map bl) (fE++ms)).2.1=(zD s q).2.2/\(vB s num f p (l.map bl) (fE++ms)).2.2.1=(zig s (f+1) p bd l).1.map bl/\(vB s num f p (l.map bl) (fE++ms)).2.2.2=fE++ms'/\cI num (zig s (f+1) p bd l).1 ms') /\
  ((vB s num f p (l.map bl) (fE++ms)).1=false->jW s (zig s (f+1) p bd l).2.1 (jK s (zig s (f+1) p bd l).2.1 (zig s (f+1) p bd l).2.2 { data:=#[46] })=((zD s (vB s num f p (l.map bl) (fE++ms)).2.1).2.1:Int)):=by
 intro f
 induction f with
 | zero=>
  intro p l fE ms hl hp _;have K:=ze0 s p hp;refine⟨λ h=>by simp[vB] at h,λ _=>?_⟩;have e:xA s p bd l.length=((tok s p).at_:Int):=by
   unfold xA;have:(l.length==3)=true:=by simp;omega
   rw[if_pos this,zhj cU]
  have h0:(0:Int)<=((tok s p).at_:Int):=by omega
  have hb:=zvj s 0 p bd l (tok s p).at_ (by rw[e];exact yas h0);simp only[vB];rw[zka hb,K.at_]
 | succ f ih=>
  intro p l fE ms hl hp hM;have e:xA s p bd l.length=bd:=by
   unfold xA;have:¬ (l.length==3)=true:=by simp;omega
   rw[if_neg this]
  have L:=yc3 s num p bd cU hp;rw[vB]
  cases hr:yV s (yB s p 4) with
  | no q=>
   rw[hr] at L;have hb:=zvj s (f+1) p bd l (zD s q).2.1 (by rw[e];exact L);refine⟨λ h=>by simp at h,λ _=>?_⟩;rw[zka hb]
  | yes q pd ts pl=>
   rw[hr] at L;obtain⟨l1,l2,l3,l4⟩:=L;have K:=ze0 s q l4;have nD:l.map bl++[dM s p pd ts]=(l++[ze3 s p bd]).map bl:=(by simp[l2]);have bD:fE++ms++[dO s num p pd ts pl]=fE++(ms++[dO s num p pd ts pl]):=(by simp);have E1:=hM.snoc l3;rw[zvi,e,l1];simp only;rw[nD,bD]
   by_cases hc:(tok s q).kind=115/\(tok s q).text.toList=[44]
   ·have gD:(tok s q).kind=115/\(tok s q).text.toList=({ data:=#[44] }:B8).toList:=⟨hc.1,by rw[hc.2,ByteArray.toList_eq]⟩;rw[if_pos (K.k7.2 hc),K.lL,(zgu cU).2 gD,(zev cU gD).1,(zev cU gD).2,if_pos rfl];exact ih _ _ _ _ (by simp;omega) (by rw[<-K.lL];exact (xD s q l4).2) E1
   ·have gD:¬ ((tok s q).kind=115/\(tok s q).text.toList=({ data:=#[44] }:B8).toList):=λ h=>hc ⟨h.1,by rw[h.2,ByteArray.toList_eq]⟩
    rw[if_neg (λ h=>hc (K.k7.1 h)),znd cU gD,(zew cU gD).1,(zew cU gD).2,if_neg (by decide)]
    by_cases hs:(tok s q).kind=115/\(tok s q).text.toList=[46]
    ·have h8:=K.k8.2 hs;have oq:yB s q 8=(zD s q).2.2:=(by unfold yB;rw[if_pos (by simpa using h8)]);refine⟨λ _=>⟨q,ms++[dO s num p pd ts pl],rfl,h8,l4,oq,rfl,rfl,E1⟩,λ h=>by simp[h8] at h⟩
    ·have h8:¬ (zD s q).1=8:=λ h=>hs (K.k8.1 h)
     have oq:yB s q 8=q:=(by unfold yB;rw[if_neg (by simpa using h8)]);have im:¬ ((tok s q).kind=115/\(tok s q).text.toList=({ data:=#[46] }:B8).toList):=λ h=>hs ⟨h.1,by rw[h.2,ByteArray.toList_eq]⟩
     refine⟨λ h=>by simp[h8] at h,λ _=>?_⟩;simp only[oq];rw[zt9 cU im,K.at_]
theorem ybc (s:B8)(num p:Nat)(bd:Int)(cU:bd<0)(hp:p<=s.size)(ms:List yU):
  ((xG s num p ms).1=true->∃ ms',zl3 s p bd=(xG s num p ms).2.1/\zco s p bd=bd/\(xG s num p ms).2.1<=s.size/\(xG s num p ms).2.2.1=yO (zh2 s p bd)/\(xG s num p ms).2.2.2=ms++ms'/\cI num (zh2 s p bd).atoms ms') /\
  ((xG s num p ms).1=false->zco s p bd=((zD s (xG s num p ms).2.1).2.1:Int)):=by
 have A:=zth s p bd cU hp;have K:=ze0 s p hp;unfold xG
 cases hr:yV s p with
 | no q=>
  rw[hr] at A;have h0:(0:Int)<=((zD s q).2.1:Int):=by omega
  refine⟨λ h=>by simp at h,λ _=>?_⟩;unfold zco zbh;rw[show (yD s p bd).2.2=((zD s q).2.1:Int) from A,zey h0];simp only[Bool.false_eq_true,if_false];exact zka (zdp h0).2
 | yes q pd ts pl=>
  rw[hr] at A;obtain⟨a1,a2,a3,a4,a5⟩:=A;have pC:(yD s p bd).2.1=q:=by rw[a1]
  have pD:(yD s p bd).2.2=bd:=by rw[a1]
  have K2:=ze0 s q a5;have hrel:zjd num (KS s p bd) (dc s num p pd ts pl):=⟨rfl,rfl,a2,a3,λ h=>by simp[KS] at h,K.at_,a4⟩
  by_cases hw:(tok s q).kind=115/\(tok s q).text.toList=[58,45]
  ·have uY:(tok s q).kind=115/\(tok s q).text.toList=({ data:=#[58,45] }:B8).toList:=⟨hw.1,by rw[hw.2,ByteArray.toList_eq]⟩;have h9:=K2.k9.2 hw;have h8:¬ (zD s q).1=8:=(by rw[h9];decide);have eB:zbh s p bd=zig s 4 (tok s q).to bd []:=by
    unfold zbh;rw[pC,pD,(zgu cU).2 uY,(zev cU uY).1,(zev cU uY).2];rfl
   have zj:(tok s q).to<=s.size:=(by rw[<-K2.lL];exact (xD s q a5).2);have B:=z94 s num bd cU 3 (tok s q).to [] (ms++[dc s num p pd ts pl]) [] rfl zj (cI.nil num);rw[List.map_nil,List.append_nil] at B;simp only[if_neg h8,if_pos h9,K2.lL];refine⟨λ h=>?_,λ h=>?_⟩
   ·obtain⟨r,ms',b1,b2,b3,b4,b5,b6,b7⟩:=B.1 h;have K3:=ze0 s r b3;have hs:=K3.k8.1 b2;have im:(tok s r).kind=115/\(tok s r).text.toList=({ data:=#[46] }:B8).toList:=⟨hs.1,by rw[hs.2,ByteArray.toList_eq]⟩;have e1:(zbh s p bd).2.1=r:=(by rw[eB,b1]);have e2:(zbh s p bd).2.2=bd:=(by rw[eB,b1]);refine⟨dc s num p pd ts pl::ms',?_,?_,?_,?_,?_,?_⟩
    ·unfold zl3;rw[e1,e2,(zfp cU im).1,b4,K3.lL]
    ·unfold zco;rw[e1,e2,(zfp cU im).2]
    ·rw[b4];exact (xD s r b3).2
    ·rw[b5,<-eB];simp[yO,zh2,KS,a2,a3]
    ·rw[b6];simp
    ·rw[<-eB] at b7;exact cI.cons b7 hrel
   ·unfold zco;rw[eB];exact B.2 h
  ·have uY:¬ ((tok s q).kind=115/\(tok s q).text.toList=({ data:=#[58,45] }:B8).toList):=λ h=>hw ⟨h.1,by rw[h.2,ByteArray.toList_eq]⟩
   have h9:¬ (zD s q).1=9:=λ h=>hw (K2.k9.1 h)
   have eB:zbh s p bd=([],q,bd):=by
    unfold zbh;rw[pC,pD,znd cU uY,(zew cU uY).1,(zew cU uY).2];rfl
   by_cases hs:(tok s q).kind=115/\(tok s q).text.toList=[46]
   ·have im:(tok s q).kind=115/\(tok s q).text.toList=({ data:=#[46] }:B8).toList:=⟨hs.1,by rw[hs.2,ByteArray.toList_eq]⟩;have h8:=K2.k8.2 hs;simp only[if_pos h8];refine⟨λ _=>⟨[dc s num p pd ts pl],?_,?_,(xD s q a5).2,?_,rfl,?_⟩,λ h=>by simp at h⟩
    ·unfold zl3;rw[eB];simp only;rw[(zfp cU im).1,K2.lL]
    ·unfold zco;rw[eB];simp only;rw[(zfp cU im).2]
    ·simp[yO,zh2,KS,eB,a2,a3]
    ·have:(zh2 s p bd).atoms=[KS s p bd]:=by simp[zh2,yN.atoms,eB]
     rw[this];exact cI.cons (cI.nil num) hrel
   ·have im:¬ ((tok s q).kind=115/\(tok s q).text.toList=({ data:=#[46] }:B8).toList):=λ h=>hs ⟨h.1,by rw[h.2,ByteArray.toList_eq]⟩
    have h8:¬ (zD s q).1=8:=λ h=>hs (K2.k8.1 h)
    simp only[if_neg h8,if_neg h9];refine⟨λ h=>by simp at h,λ _=>?_⟩;unfold zco;rw[eB];simp only;rw[zt9 cU im,K2.at_]
inductive jU:Nat->List yN->List yU->Prop where
 | nil (n:Nat):jU n [] []
 | cons {n:Nat} {R:yN} {rs:List yN} {ms ms':List yU} (h:cI n R.atoms ms) (t:jU (n+1) rs ms'):jU n (R::rs) (ms++ms')
theorem jU.snoc {n:Nat}{rs:List yN}(h:jU n rs ms):∀ {R:yN} {ms':List yU},cI (n+rs.length) R.atoms ms'->jU n (rs++[R]) (ms++ms'):=by
 induction h with
 | nil n=>
  intro R ms' hm;have:=jU.cons (rs:=[]) (ms':=[]) hm (jU.nil _);simpa using this
 | cons h t ih=>
  intro R ms' hm;rw[List.append_assoc,List.cons_append];refine jU.cons h (ih ?_);simpa[Nat.add_comm,Nat.add_left_comm,Nat.add_assoc] using hm
theorem z7m (s:B8)(bd:Int)(cU:bd<0):∀ (f p:Nat) (rs:List yN) (ms:List yU),rs.length+f=30->p<=s.size->jU 0 rs ms ->
  ((vG s (f+1) p (rs.map yO) ms).1=true->(zdb s (f+1) p bd rs).2.2=bd/\(vG s (f+1) p (rs.map yO) ms).2.2.1=(zdb s (f+1) p bd rs).1.map yO/\jU 0 (zdb s (f+1) p bd rs).1 (vG s (f+1) p (rs.map yO) ms).2.2.2) /\
  ((vG s (f+1) p (rs.map yO) ms).1=false->(zdb s (f+1) p bd rs).2.2=((zD s (vG s (f+1) p (rs.map yO) ms).2.1).2.1:Int)):=by
 intro f
 induction f with
 | zero=>
  intro p rs ms hl hp hT;have K:=ze0 s p hp;rw[vG,zdb]
  by_cases h0:(zD s p).1=0
  ·have hg:zee s p bd=false:=(by unfold zee;simp[K.k0.1 h0]);rw[if_pos h0,hg,if_neg (by decide)];exact⟨λ _=>⟨rfl,rfl,hT⟩,λ h=>by simp at h⟩
  ·have hg:zee s p bd=true:=(by unfold zee;simp[cU];exact λ h=>h0 (K.k0.2 h));rw[if_neg h0,if_pos (by simp;omega),hg,if_pos rfl];refine⟨λ h=>by simp at h,λ _=>?_⟩;have e:zd4 s p bd rs.length=((tok s p).at_:Int):=by
    unfold zd4;rw[if_pos (by simp;omega),zhj cU]
   have oa:(0:Int)<=((tok s p).at_:Int):=(by omega);simp only[zdb,e];unfold zco;have hb:(zbh s p ((tok s p).at_:Int)).2.2=((tok s p).at_:Int):=by
    unfold zbh;rw[zvg oa,zey oa,(zdp oa).1,(zdp oa).2];rfl
   rw[zka hb,K.at_]
 | succ f ih=>
  intro p rs ms hl hp hT;have K:=ze0 s p hp;rw[vG,zdb]
  by_cases h0:(zD s p).1=0
  ·have hg:zee s p bd=false:=(by unfold zee;simp[K.k0.1 h0]);rw[if_pos h0,hg,if_neg (by decide)];exact⟨λ _=>⟨rfl,rfl,hT⟩,λ h=>by simp at h⟩
  ·have hg:zee s p bd=true:=(by unfold zee;simp[cU];exact λ h=>h0 (K.k0.2 h));have e:zd4 s p bd rs.length=bd:=(by unfold zd4;rw[if_neg (by simp;omega)]);rw[if_neg h0,if_neg (by simp;omega),hg,if_pos rfl,e,List.length_map];have R:=ybc s rs.length p bd cU hp ms
   cases hr:(xG s rs.length p ms).1 with
   | true=>
    obtain⟨ms',r1,r2,r3,r4,r5,r6⟩:=R.1 hr;rw[if_pos rfl,r1,r2,r4,r5];have e2:rs.map yO++[yO (zh2 s p bd)]=(rs++[zh2 s p bd]).map yO:=(by simp);rw[e2];exact ih _ _ _ (by simp;omega) r3 (hT.snoc (by simpa using r6))
   | false=>
    have hb:=R.2 hr;rw[if_neg (by decide)];refine⟨λ h=>by simp at h,λ _=>?_⟩;have oa:zee s (zl3 s p bd) (zco s p bd)=false:=(by unfold zee;rw[hb];simp);rw[z3i _ _ _ _ _ oa];exact hb
def zO (s:B8):Bool × Nat × List yG × List yU:=vG s 31 0 [] []
theorem zhw (s:B8):
  ((zO s).1=true->(vA s).2.2=-1/\(zO s).2.2.1=(vA s).1.map yO/\jU 0 (vA s).1 (zO s).2.2.2) /\
  ((zO s).1=false->(vA s).2.2=((zD s (zO s).2.1).2.1:Int)):=
 z7m s (-1) (by decide) 30 0 [] [] rfl (Nat.zero_le _) (jU.nil 0)
end
end Go.Proofs.YtldkpahaocjdpaaGreat
