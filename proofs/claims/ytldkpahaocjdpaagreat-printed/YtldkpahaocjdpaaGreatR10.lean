/-
  Plain: a square table of marks, as the reference's hangs makes it in memory: a row of slices, and behind it, block by block, the rows.
-/
import Derived.Test.YtldkpahaocjdpaaGreatR09
set_option maxHeartbeats 16000000
set_option maxRecDepth 1000000
namespace Go.Proofs.YtldkpahaocjdpaaGreat
section
open Go.RowKit
def upd (M:Nat->Nat->Bool)(i j:Nat):Nat->Nat->Bool:=λ a b=>(decide (a=i)&&decide (b=j))||M a b
theorem z7s:(Tryz.prog.info? 4).map (λ i=>(i.zero,i.size,i.bytes))=some (some (.bool false),1,1):=by kernel_rfl
theorem z2x:(Tryz.prog.info? 143).map (λ i=>(i.zero,i.size,i.bytes))=some (some (.slice none 0 0),1,24):=by kernel_rfl
theorem yej (n:Nat)(hn:n<=1000)(u:W8):(Instr.makeSlice 314 (.int .i64 n) (.int .i64 n)).run Tryz.prog u=.ok (.slice (some ⟨u.heap.size,0,none⟩) n n) (u.alloc (.cells (madeCells #[.slice none 0 0] n) 143)):=by
 obtain⟨i0,hi,dK,aj,bZ⟩:=info_parts z2x;have h:=run_make (P:=Tryz.prog) u 314 143 i0 (.slice none 0 0) Tryz.underlying314 hi dK .i64 .i64 (n:Int) (n:Int) (by omega) (Int.le_refl _) (by rw[bZ];omega) (by omega);simpa[aj,Value.cells] using h
theorem z7z (n:Nat)(hn:n<=1000)(u:W8):(Instr.makeSlice 143 (.int .i64 n) (.int .i64 n)).run Tryz.prog u=.ok (.slice (some ⟨u.heap.size,0,none⟩) n n) (u.alloc (.cells (madeCells #[.bool false] n) 4)):=by
 obtain⟨i0,hi,dK,aj,bZ⟩:=info_parts z7s;have h:=run_make (P:=Tryz.prog) u 143 4 i0 (.bool false) Tryz.underlying143 hi dK .i64 .i64 (n:Int) (n:Int) (by omega) (Int.le_refl _) (by rw[bZ];omega) (by omega);simpa[aj,Value.cells] using h
theorem z7y (z:Value)(n i:Nat)(h:i<n):(madeCells #[z] n)[i]?=some z:=by
 have:=toList_madeCells_one z n;rw[<-Array.getElem?_toList,this,List.getElem?_replicate,if_pos h]
end
section
open Go.RowKit
def zcx (ps:P9)(nm:B8):Nat:=(xM ps nm).toNat
def zsh (ps:P9)(h:Nat):List yY->(Nat->Nat->Bool)->(Nat->Nat->Bool)
 | [],M=>M
 | A::r,M=>zsh ps h r (upd M h (zcx ps A.pred))
def zu9 (ps:P9):List yU->(Nat->Nat->Bool)->(Nat->Nat->Bool)
 | [],M=>M
 | R::r,M=>zu9 ps r (zsh ps (zcx ps R.head.pred) R.body M)
def fwK (n m i:Nat)(M:Nat->Nat->Bool)(k:Nat):Nat->Nat->Bool:=
 if k<n then fwK n m i (if M i m&&M m k then upd M i k else M) (k+1) else M
termination_by n-k
def fwI (n m:Nat)(M:Nat->Nat->Bool)(i:Nat):Nat->Nat->Bool:=
 if i<n then fwI n m (fwK n m i M 0) (i+1) else M
termination_by n-i
def fwM (n:Nat)(M:Nat->Nat->Bool)(m:Nat):Nat->Nat->Bool:=
 if m<n then fwM n (fwI n m M 0) (m+1) else M
termination_by n-m
variable {k n m i:Nat} {M:Nat->Nat->Bool}
theorem yeb (h:k<n):fwK n m i M k=fwK n m i (if M i m&&M m k then upd M i k else M) (k+1):=by rw[fwK,if_pos h]
theorem yby (h:¬ k<n):fwK n m i M k=M:=by rw[fwK,if_neg h]
theorem yd9 (h:i<n):fwI n m M i=fwI n m (fwK n m i M 0) (i+1):=by rw[fwI,if_pos h]
theorem ybx (h:¬ i<n):fwI n m M i=M:=by rw[fwI,if_neg h]
theorem yag (h:m<n):fwM n M m=fwM n (fwI n m M 0) (m+1):=by rw[fwM,if_pos h]
theorem z2s (h:¬ m<n):fwM n M m=M:=by rw[fwM,if_neg h]
def qY (ps:P9)(rs:List yU):Nat->Nat->Bool:=fwM ps.length (zu9 ps rs (λ _ _=>false)) 0
def zut (ps:P9)(l:List yY):Prop:=∀ A∈l,0<=xM ps A.pred
end
section
open Go.RowKit
def zy7 (ps:P9)(H:Nat->Nat->Bool)(hd:B8)(A:yY):Bool:=A.no&&(xM ps A.pred==xM ps hd||H (zcx ps A.pred) (zcx ps hd))
def ze1 (ps:P9)(H:Nat->Nat->Bool)(hd:B8):List yY->Int
 | []=>-1
 | A::r=>if zy7 ps H hd A then A.lS else ze1 ps H hd r
def zel (ps:P9)(H:Nat->Nat->Bool):List yU->Int
 | []=>-1
 | R::r=>if 0<=ze1 ps H R.head.pred R.body then ze1 ps H R.head.pred R.body else zel ps H r
end
section
open Go.RowKit
def ydr (ps:P9)(f:Nat->Nat)(hd:B8)(A:yY):Prop:=f (zcx ps A.pred)+(if A.no then 1 else 0)<=f (zcx ps hd)
def ydy (ps:P9)(rs:List yU)(f:Nat->Nat):Prop:=∀ R∈rs,∀ A∈R.body,ydr ps f R.head.pred A
def gq (S:Nat->Nat)(i v:Nat):Nat->Nat:=λ a=>if a=i then v else S a
theorem zls (n:Nat)(hn:n<=1000)(u:W8):(Instr.makeSlice 24 (.int .i64 n) (.int .i64 n)).run Tryz.prog u=.ok (.slice (some ⟨u.heap.size,0,none⟩) n n) (u.alloc (.cells (madeCells #[.int .i64 0] n) 3)):=by
 obtain⟨i0,hi,dK,aj,bZ⟩:=info_parts z2y;have h:=run_make (P:=Tryz.prog) u 24 3 i0 (.int .i64 0) Tryz.underlying24 hi dK .i64 .i64 (n:Int) (n:Int) (by omega) (Int.le_refl _) (by rw[bZ];omega) (by omega);simpa[aj,Value.cells] using h
end
section
open Go.RowKit
def zec (s:B8)(p:Nat)(bd:Int)(n:Nat):Int:=if n==30 then zke s p bd else bd
def zif (s:B8)(p:Nat)(bd:Int):yU:=⟨Lh s p bd,(zbj s p bd).1⟩
def zem (s:B8)(p:Nat)(bd:Int):Bool:=(tok s p).kind != 46&&decide (bd<0)
def zdk (s:B8):Nat->Nat->Int->List yU->List yU × Nat × Int
 | 0,p,bd,l=>(l,p,bd)
 | f+1,p,bd,l=>if zem s p bd then zdk s f (zmm s p (zec s p bd l.length)) (zcu s p (zec s p bd l.length)) (l++[zif s p (zec s p bd l.length)]) else (l,p,bd)
theorem z49 (s:B8)(f p:Nat)(bd:Int)(l:List yU)(hg:zem s p bd=false):zdk s f p bd l=(l,p,bd):=by
 cases f with
 | zero=>rfl
 | succ f=>rw[zdk,if_neg (by rw[hg];decide)]
def vE (s:B8):List yU × Nat × Int:=zdk s 31 0 (-1) []
def zF (s:B8):Int × P9:=zax ((vE s).1.flatMap yU.atoms) []
def z7 (s:B8):Bool × Int × Int:=
 if 800<s.size then (false,1,0)
 else if 0<=(vE s).2.2 then (false,2,(vE s).2.2)
 else if 0<=(zF s).1 then (false,3,(zF s).1)
 else if 0<=zbi (vE s).1 then (false,4,zbi (vE s).1)
 else if 0<=zel (zF s).2 (qY (zF s).2 (vE s).1) (vE s).1 then (false,5,zel (zF s).2 (qY (zF s).2 (vE s).1) (vE s).1)
 else (true,0,0)
end
section
theorem z54 (s:B8)(i:Nat):(tok s i).kind=46\/(tok s i).kind=33\/((tok s i).kind=110/\(tok s i).text=s.extract (tok s i).at_ (tok s i).to)\/((tok s i).kind=118/\(tok s i).text=s.extract (tok s i).at_ (tok s i).to)\/(tok s i).kind=119 \/
  ((tok s i).kind=115/\((tok s i).text.toList=[40]\/(tok s i).text.toList=[41]\/(tok s i).text.toList=[44]\/(tok s i).text.toList=[46]\/(tok s i).text.toList=[58,45])):=by
 unfold tok;generalize yS yG s i=k;unfold z06
 by_cases h0:s.size<=k
 ·simp[h0]
 ·rw[if_neg h0]
  by_cases h1:k<yS jE s k
  ·rw[if_pos h1]
   split
   ·simp
   ·split <;> simp
  ·rw[if_neg h1]
   by_cases h2:k<yS xA s k
   ·rw[if_pos h2]
    split <;> simp
   ·rw[if_neg h2]
    by_cases h3:qH s k=0
    ·rw[if_pos h3];simp
    ·rw[if_neg h3]
     by_cases h4:qH s k=2
     ·rw[if_pos h4];have:({ data:=#[58,45] }:B8).toList=[58,45]:=by rw[ByteArray.toList_eq]
      simp[this]
     ·rw[if_neg h4];have hk:k<s.size:=(by omega);have t1:=zvb s k hk;simp only[t1];have hs:(s[k].toNat:Int)=40\/(s[k].toNat:Int)=41\/(s[k].toNat:Int)=44\/(s[k].toNat:Int)=46:=by
       unfold qH at h3 h4;rw[dif_pos hk] at h3 h4
       by_cases hc:(s[k].toNat:Int)=58
       ·rw[if_pos hc] at h3 h4
        by_cases hd:k+1<s.size
        ·rw[dif_pos hd] at h3 h4
         by_cases he:(s[k+1].toNat:Int)=45
         ·rw[if_pos he] at h4;exact absurd rfl h4
         ·rw[if_neg he] at h3;exact absurd rfl h3
        ·rw[dif_neg hd] at h3;exact absurd rfl h3
       ·rw[if_neg hc] at h3
        by_cases hd:(s[k].toNat:Int)=40\/(s[k].toNat:Int)=41\/(s[k].toNat:Int)=44\/(s[k].toNat:Int)=46
        ·exact hd
        ·rw[if_neg hd] at h3;exact absurd rfl h3
      have u:∀ c:UInt8,(s[k].toNat:Int)=(c.toNat:Int)->s[k]=c:=λ c h=>(yc8 _ _).2 h
      rcases hs with h | h | h | h
      ·simp[u 40 h]
      ·simp[u 41 h]
      ·simp[u 44 h]
      ·simp[u 46 h]
structure ya3 (s:B8)(p:Nat):Prop where
 k0:(zD s p).1=0↔(tok s p).kind=46
 k2:(zD s p).1=2↔(tok s p).kind=110
 k3:(zD s p).1=3↔(tok s p).kind=118
 k4:(zD s p).1=4↔(tok s p).kind=119
 k5:(zD s p).1=5↔((tok s p).kind=115/\(tok s p).text.toList=[40])
 k6:(zD s p).1=6↔((tok s p).kind=115/\(tok s p).text.toList=[41])
 k7:(zD s p).1=7↔((tok s p).kind=115/\(tok s p).text.toList=[44])
 k8:(zD s p).1=8↔((tok s p).kind=115/\(tok s p).text.toList=[46])
 k9:(zD s p).1=9↔((tok s p).kind=115/\(tok s p).text.toList=[58,45])
 at_:(zD s p).2.1=(tok s p).at_
 lL:(zD s p).2.2=(tok s p).to
 word:(tok s p).kind=110\/(tok s p).kind=118->yP s p=(tok s p).text
theorem zep (s:B8)(p:Nat)(hp:p<=s.size):ya3 s p:=by
 have h:=z54 s p;have e:=z82 s p hp;have e1:(zD s p).1=z07 (tok s p):=by rw[e]
 have e2:(zD s p).2.1=(tok s p).at_:=by rw[e]
 have e3:(zD s p).2.2=(tok s p).to:=by rw[e]
 have hw:(tok s p).kind=110\/(tok s p).kind=118->yP s p=(tok s p).text:=by
  intro hk;unfold yP;rw[e2,e3];rcases h with h | h | h | h | h | h
  ·omega
  ·omega
  ·exact h.2.symm
  ·exact h.2.symm
  ·omega
  ·omega
 refine⟨?_,?_,?_,?_,?_,?_,?_,?_,?_,e2,e3,hw⟩
 all_goals
  rw[e1];unfold z07;rcases h with h | h | h | h | h | ⟨h,h' | h' | h' | h' | h'⟩
  all_goals first | (simp[h,h'];done) | (simp[h.1];done) | (simp[h];done)
end
section
variable {bd:Int} {p:Nat} {s:B8}
theorem zf9 (h:0<=bd):jW s p bd=bd/\gu s p bd=p:=by
 have e:zke s p bd=bd:=by unfold zke;rw[if_neg (by omega)]
 have e1:jW s p bd=bd:=by unfold jW;split;exact e;rfl
 exact⟨e1,by unfold gu;rw[e1,if_neg (by omega)]⟩
theorem zxj (h:0<=bd):zke s p bd=bd:=by unfold zke;rw[if_neg (by omega)]
variable {wd:B8}
theorem ze7 (h:0<=bd):isS s p bd wd=false:=by
 unfold isS;simp;intro h1;omega
theorem zdx (h:0<=bd):zb2 s p bd wd=p/\zb1 s p bd wd=bd:=by
 unfold zb2 zb1;rw[ze7 h];exact⟨rfl,rfl⟩
theorem zx2 (h:0<=bd):jI s p bd wd=bd:=by
 unfold jI;rw[ze7 h];exact zxj h
theorem zw3 (h:0<=bd):(yD s p bd).2.2=bd:=by
 have e1:zcf s p bd=bd:=by unfold zcf;split;exact zxj h;rfl
 have e2:zae s p bd=bd:=by unfold zae;rw[e1];exact (zf9 h).1
 unfold yD;rw[e2,ze7 h];exact (zdx h).2
theorem yb5 (h:0<=bd):(xP s p bd).2=bd:=by
 have e1:zss s p bd=false:=by unfold zss;simp;intro h1;omega
 unfold xP zo0 zj3;rw[e1];exact zw3 h
theorem zf8 (h:bd<0)(h1:(tok s p).kind≠33)(h2:(tok s p).kind≠46):jW s p bd=bd/\gu s p bd=(tok s p).to:=by
 have e1:jW s p bd=bd:=by unfold jW;rw[if_neg (by simp[h1,h2])]
 exact⟨e1,by unfold gu;rw[e1,if_pos h]⟩
theorem zht (h:bd<0):zke s p bd=(tok s p).at_:=by unfold zke;rw[if_pos h]
theorem zg6 (h:bd<0):isS s p bd wd=true↔((tok s p).kind=115/\(tok s p).text.toList=wd.toList):=by
 unfold isS;simp[h]
theorem zox (h:bd<0)(hn:¬ ((tok s p).kind=115/\(tok s p).text.toList=wd.toList)):isS s p bd wd=false:=by
 cases e:isS s p bd wd with
 | false=>rfl
 | true=>exact absurd ((zg6 h).1 e) hn
theorem ze5 (h:bd<0)(hy:(tok s p).kind=115/\(tok s p).text.toList=wd.toList):zb2 s p bd wd=(tok s p).to/\zb1 s p bd wd=bd:=by
 have e:=(zg6 (wd:=wd) h).2 hy;have t:=zf8 h (by rw[hy.1];decide) (by rw[hy.1];decide);unfold zb2 zb1;rw[e];exact⟨t.2,t.1⟩
theorem ze6 (h:bd<0)(hn:¬ ((tok s p).kind=115/\(tok s p).text.toList=wd.toList)):zb2 s p bd wd=p/\zb1 s p bd wd=bd:=by
 unfold zb2 zb1;rw[zox h hn];exact⟨rfl,rfl⟩
theorem zdv (c:UInt8):(chr c).toList=[c]:=by
 rw[ByteArray.toList_eq]
def a8 (t:zeo):Bool × B8:=(t.isVar,t.text)
variable {l:List zeo}
theorem zpo (f:Nat)(h:bd<0)(hn:¬ ((tok s p).kind=110\/(tok s p).kind=118)\/l.length=4):(zb9 s (f+1) p bd l).2.2=(tok s p).at_:=by
 have e:zhf s p bd l.length=(tok s p).at_:=by
  unfold zhf;rw[if_pos,zht h];rcases hn with hn | hn
  ·simp[not_or.1 hn]
  ·simp[hn]
 have h0:(0:Int)<=(tok s p).at_:=by omega
 rw[zb9];simp only[e,(zf9 h0).1,(zf9 h0).2,ze7 h0,(zdx h0).1,(zdx h0).2,zx2 h0];rfl
theorem z9g (f:Nat)(h:bd<0)(hk:(tok s p).kind=110\/(tok s p).kind=118)(hl:l.length≠4)(hc:(tok s (tok s p).to).kind=115/\(tok s (tok s p).to).text.toList=[44]):
  zb9 s (f+1) p bd l=zb9 s f (tok s (tok s p).to).to bd (l++[zij s p]):=by
 have e:zhf s p bd l.length=bd:=by
  unfold zhf;rw[if_neg];rcases hk with hk | hk <;> simp[hk,hl]
 have t:=zf8 h (p:=p) (s:=s) (by rcases hk with hk | hk <;> rw[hk] <;> decide) (by rcases hk with hk | hk <;> rw[hk] <;> decide);rw[<-zdv] at hc;rw[zb9];simp only[e,t.1,t.2,(ze5 h hc).1,(ze5 h hc).2,(zg6 h).2 hc,if_true]
theorem z5u (f:Nat)(h:bd<0)(hk:(tok s p).kind=110\/(tok s p).kind=118)(hl:l.length≠4)(hc:¬ ((tok s (tok s p).to).kind=115/\(tok s (tok s p).to).text.toList=[44])):
  zb9 s (f+1) p bd l=(l++[zij s p],gu s (tok s p).to (jI s (tok s p).to bd (chr 41)),jW s (tok s p).to (jI s (tok s p).to bd (chr 41))):=by
 have e:zhf s p bd l.length=bd:=by
  unfold zhf;rw[if_neg];rcases hk with hk | hk <;> simp[hk,hl]
 have t:=zf8 h (p:=p) (s:=s) (by rcases hk with hk | hk <;> rw[hk] <;> decide) (by rcases hk with hk | hk <;> rw[hk] <;> decide);rw[<-zdv] at hc;rw[zb9];simp only[e,t.1,t.2,(ze6 h hc).1,(ze6 h hc).2,zox h hc];rfl
theorem zfx (h:bd<0)(hy:(tok s p).kind=115/\(tok s p).text.toList=wd.toList):gu s p (jI s p bd wd)=(tok s p).to/\jW s p (jI s p bd wd)=bd:=by
 have t:=zf8 h (by rw[hy.1];decide) (by rw[hy.1];decide);unfold jI;rw[(zg6 h).2 hy];exact⟨t.2,t.1⟩
theorem zvr (h:bd<0)(hn:¬ ((tok s p).kind=115/\(tok s p).text.toList=wd.toList)):jW s p (jI s p bd wd)=(tok s p).at_:=by
 unfold jI;rw[zox h hn];simp only[Bool.false_eq_true,if_false,zht h];exact (zf9 (by omega)).1
theorem z0v {pl:Nat->Nat}{t:zeo}(dP:∀ i (h:i<l.length),pl i=(l[i]).at_):∀ i (h:i<(l++[t]).length),dL pl l.length t.at_ i=((l++[t])[i]).at_:=by
 intro i h
 by_cases e:i=l.length
 ·subst e;simp[dL]
 ·have h1:i<l.length:=by simp at h;omega
  rw[List.getElem_append_left h1];simp[dL,e,dP i h1]
theorem z9f (s:B8)(bd:Int)(cU:bd<0):∀ (f p:Nat) (l:List zeo) (pl:Nat->Nat),l.length+f=4->p<=s.size->(∀ i (h:i<l.length),pl i=(l[i]).at_) ->
  ((zN s f p (l.map a8) pl).1=true->(zb9 s (f+1) p bd l).2=((zN s f p (l.map a8) pl).2.1,bd)/\(zN s f p (l.map a8) pl).2.2.1=(zb9 s (f+1) p bd l).1.map a8/\(∀ i (h:i<(zb9 s (f+1) p bd l).1.length),(zN s f p (l.map a8) pl).2.2.2 i=((zb9 s (f+1) p bd l).1[i]).at_)/\(zN s f p (l.map a8) pl).2.1<=s.size) /\
  ((zN s f p (l.map a8) pl).1=false->(zb9 s (f+1) p bd l).2.2=((zD s (zN s f p (l.map a8) pl).2.1).2.1:Int)):=by
 intro f
 induction f with
 | zero=>
  intro p l pl hl hp _;refine⟨λ h=>by simp[zN] at h,λ _=>?_⟩;rw[zpo 0 cU (.inr (by omega))];simp only[zN];rw[(zep s p hp).at_]
 | succ f ih=>
  intro p l pl hl hp dP;have K:=zep s p hp;have KZ:(tok s p).to<=s.size:=by rw[<-K.lL];exact (xE s p hp).2
  have K2:=zep s (tok s p).to KZ;have rm:(tok s (tok s p).to).to<=s.size:=by rw[<-K2.lL];exact (xE s _ KZ).2
  by_cases hk:(tok s p).kind=110\/(tok s p).kind=118
  ·have kg:(zD s p).1=2\/(zD s p).1=3:=(by rw[K.k2,K.k3];exact hk);have zv:(l.map a8)++[(decide ((zD s p).1=3),yP s p)]=(l++[zij s p]).map a8:=by
    rw[List.map_append];simp only[List.map_cons,List.map_nil,a8,zij];rw[K.word hk];have:decide ((zD s p).1=3)=((tok s p).kind==118):=by
     rw[Bool.eq_iff_iff];simp[K.k3]
    rw[this]
   have sM:∀ i (h:i<(l++[zij s p]).length),dL pl l.length (zD s p).2.1 i=((l++[zij s p])[i]).at_:=by
    rw[K.at_];exact z0v (t:=zij s p) dP
   rw[zN,if_pos kg,K.lL,zv,List.length_map]
   by_cases hc:(tok s (tok s p).to).kind=115/\(tok s (tok s p).to).text.toList=[44]
   ·rw[if_pos (K2.k7.2 hc),K2.lL,z9g (f+1) cU hk (by omega) hc];exact ih _ _ _ (by simp;omega) rm sM
   ·rw[if_neg (λ e=>hc (K2.k7.1 e)),z5u (f+1) cU hk (by omega) hc]
    by_cases hs:(tok s (tok s p).to).kind=115/\(tok s (tok s p).to).text.toList=[41]
    ·have hr:z6 s (tok s p).to 6=(tok s (tok s p).to).to:=(by unfold z6;rw[K2.k6.2 hs];exact K2.lL);rw[<-zdv] at hs;refine⟨λ _=>⟨?_,rfl,sM,by simp only[hr];exact rm⟩,λ h=>?_⟩
     ·simp only[(zfx cU hs).1,(zfx cU hs).2,hr]
     ·rw[zdv] at hs;simp[K2.k6.2 hs] at h
    ·have h6:¬ (zD s (tok s p).to).1=6:=λ e=>hs (K2.k6.1 e)
     have hr:z6 s (tok s p).to 6=(tok s p).to:=(by unfold z6;rw[if_neg (by simpa using h6)]);rw[<-zdv] at hs;refine⟨λ h=>by simp[h6] at h,λ _=>?_⟩;simp only[zvr cU hs,hr];rw[K2.at_]
  ·have kg:¬ ((zD s p).1=2\/(zD s p).1=3):=(by rw[K.k2,K.k3];exact hk);rw[zN,if_neg kg];refine⟨λ h=>by simp at h,λ _=>?_⟩;rw[zpo (f+1) cU (.inl hk)];simp only;rw[K.at_]
def zru (s:B8)(p:Nat)(bd:Int)(r:ye4):Prop:=
 match r with
 | .no q=>(yD s p bd).2.2=((zD s q).2.1:Int)
 | .yes q pd ts pl=>(yD s p bd).2=(q,bd)/\pd=(tok s p).text/\ts=(yD s p bd).1.map a8/\(∀ i (h:i<(yD s p bd).1.length),pl i=((yD s p bd).1[i]).at_)/\q<=s.size
theorem zuz (s:B8)(p:Nat)(bd:Int)(cU:bd<0)(hp:p<=s.size):zru s p bd (yK s p):=by
 have K:=zep s p hp;have KZ:(tok s p).to<=s.size:=by rw[<-K.lL];exact (xE s p hp).2
 have K2:=zep s (tok s p).to KZ;have rm:(tok s (tok s p).to).to<=s.size:=by rw[<-K2.lL];exact (xE s _ KZ).2
 unfold yK
 by_cases hk:(tok s p).kind=110
 ·rw[if_pos (K.k2.2 hk),K.lL,K.word (.inl hk)];have b1:zcf s p bd=bd:=by unfold zcf;simp[hk]
  have t:=zf8 cU (p:=p) (s:=s) (by rw[hk];decide) (by rw[hk];decide);have b2:zae s p bd=bd:=by unfold zae;rw[b1];exact t.1
  have p2:zcg s p bd=(tok s p).to:=by unfold zcg;rw[b1];exact t.2
  by_cases ho:(tok s (tok s p).to).kind=115/\(tok s (tok s p).to).text.toList=[40]
  ·rw[if_pos (K2.k5.2 ho),K2.lL];have e:yD s p bd=zb9 s 5 (tok s (tok s p).to).to bd []:=by
    rw[<-zdv] at ho;unfold yD;rw[b2,p2,(zg6 cU).2 ho,(ze5 cU ho).1,(ze5 cU ho).2];rfl
   have T:=z9f s bd cU 4 (tok s (tok s p).to).to [] (λ _=>0) rfl rm (by simp);rw[List.map_nil] at T
   cases hP:(zN s 4 (tok s (tok s p).to).to [] (λ _=>0)).1 with
   | true=>
    rw[if_pos rfl];obtain⟨t1,t2,t3,t4⟩:=T.1 hP;unfold zru;simp only[e];exact⟨t1,trivial,t2,t3,t4⟩
   | false=>
    rw[if_neg (by decide)];unfold zru;simp only[e];exact T.2 hP
  ·rw[if_neg (λ h=>ho (K2.k5.1 h))];have e:yD s p bd=([],(tok s p).to,bd):=by
    rw[<-zdv] at ho;unfold yD;rw[b2,p2,zox cU ho,(ze6 cU ho).1,(ze6 cU ho).2];rfl
   unfold zru;simp only[e];exact⟨trivial,trivial,by simp,by simp,KZ⟩
 ·rw[if_neg (λ h=>hk (K.k2.1 h))];unfold zru;have b1:zcf s p bd=(tok s p).at_:=by unfold zcf;simp[hk,zht cU]
  have h0:(0:Int)<=(tok s p).at_:=by omega
  have b2:zae s p bd=(tok s p).at_:=by unfold zae;rw[b1];exact (zf9 h0).1
  simp only;rw[K.at_];unfold yD;rw[b2,ze7 h0];exact (zdx (s:=s) (wd:=chr 40) (p:=zcg s p bd) h0).2
end
end Go.Proofs.YtldkpahaocjdpaaGreat
