/-
  The reference's parser: literal, at every text and place: the plain text's literal, its terms in a row of its own; nothing else of old memory has turned but the parser.
-/
import Derived.Test.YtldkpahaocjdpaaGreatR03
import Derived.Deep.AppendLies
import Derived.Deep.RegionLaw
import Derived.Deep.DeepCutAuto
set_option maxHeartbeats 16000000
set_option maxRecDepth 1000000
namespace Go.Proofs.YtldkpahaocjdpaaGreat
section
open Go.RowKit
def litNo (s:B8)(pos:Nat)(bad:Int):Bool:=decide (bad<0)&&(tok s pos).kind==119
def litPos (s:B8)(pos:Nat)(bad:Int):Nat:=if litNo s pos bad then cW s pos bad else pos
def litBad (s:B8)(pos:Nat)(bad:Int):Int:=if litNo s pos bad then takeBad s pos bad else bad
def litAtom (s:B8)(pos:Nat)(bad:Int):RAtom:=
 ⟨(tok s (litPos s pos bad)).text,(atomRest s (litPos s pos bad) (litBad s pos bad)).1,litNo s pos bad,(tok s (litPos s pos bad)).at_,(tok s pos).at_⟩
def litRest (s:B8)(pos:Nat)(bad:Int):Nat × Int:=(atomRest s (litPos s pos bad) (litBad s pos bad)).2
theorem past5 {w:W8}{n j:Nat}{v:Value}(h:w.cell? ⟨n,j,none⟩=some v)(o:Obj):(w.alloc o).cell? ⟨n,j,none⟩=some v:=by
 rw[World.cell?_alloc_past _ _ _ (World.block_lt_of_cell? w ⟨n,j,none⟩ h)];exact h
end
section
open Go.RowKit
def litBad1 (s:B8)(p:Nat)(bd:Int)(n:Nat):Int:=if n==3 then failS s p bd else bd
def bodyS (s:B8):Nat->Nat->Int->List RAtom->List RAtom × Nat × Int
 | 0,p,bd,l=>(l,p,bd)
 | f+1,p,bd,l=>
  if isS s (litRest s p (litBad1 s p bd l.length)).1 (litRest s p (litBad1 s p bd l.length)).2 { data:=#[44] } then
   bodyS s f (hasPos s (litRest s p (litBad1 s p bd l.length)).1 (litRest s p (litBad1 s p bd l.length)).2 { data:=#[44] }) (hasBad s (litRest s p (litBad1 s p bd l.length)).1 (litRest s p (litBad1 s p bd l.length)).2 { data:=#[44] }) (l++[litAtom s p (litBad1 s p bd l.length)])
  else (l++[litAtom s p (litBad1 s p bd l.length)],hasPos s (litRest s p (litBad1 s p bd l.length)).1 (litRest s p (litBad1 s p bd l.length)).2 { data:=#[44] },hasBad s (litRest s p (litBad1 s p bd l.length)).1 (litRest s p (litBad1 s p bd l.length)).2 { data:=#[44] })
structure RRule where
 head:RAtom
 body:List RAtom
def gV (s:B8)(pos:Nat)(bad:Int):RAtom:=⟨(tok s pos).text,(atomRest s pos bad).1,false,(tok s pos).at_,0⟩
def bodyOf (s:B8)(pos:Nat)(bad:Int):List RAtom × Nat × Int:=
 if isS s (atomRest s pos bad).2.1 (atomRest s pos bad).2.2 { data:=#[58,45] } then
  bodyS s 4 (hasPos s (atomRest s pos bad).2.1 (atomRest s pos bad).2.2 { data:=#[58,45] }) (hasBad s (atomRest s pos bad).2.1 (atomRest s pos bad).2.2 { data:=#[58,45] }) []
 else ([],hasPos s (atomRest s pos bad).2.1 (atomRest s pos bad).2.2 { data:=#[58,45] },hasBad s (atomRest s pos bad).2.1 (atomRest s pos bad).2.2 { data:=#[58,45] })
def rulePos (s:B8)(pos:Nat)(bad:Int):Nat:=cW s (bodyOf s pos bad).2.1 (needBad0 s (bodyOf s pos bad).2.1 (bodyOf s pos bad).2.2 { data:=#[46] })
def ruleBad (s:B8)(pos:Nat)(bad:Int):Int:=takeBad s (bodyOf s pos bad).2.1 (needBad0 s (bodyOf s pos bad).2.1 (bodyOf s pos bad).2.2 { data:=#[46] })
theorem own_ne {w:W8}{base base':Nat}{e e':TypeId}{size zM:Nat}{v v':Value}{n n':Nat}{xs KJ:V8}(h:w.ownsRow base e size v n xs)(h':w.ownsRow base' e' zM v' n' KJ)(bG:e≠e'):v.ownBlock=none\/v.ownBlock≠v'.ownBlock:=by
 rcases h.2 with⟨rfl,_⟩ | ⟨g,cap,cur,rfl,_,hg,_⟩
 ·exact .inl rfl
 ·refine .inr ?_;rcases h'.2 with⟨rfl,_⟩ | ⟨g',oI,BW,rfl,_,jo,_⟩
  ·simp[Value.ownBlock]
  ·simp only[Value.ownBlock];intro e1;injection e1 with e1
   subst e1;rw[hg] at jo;injection jo with jo
   injection jo with _ jo _
   exact bG jo
end
section
open Go.RowKit
def ixFrom (nm:B8):P9->Nat->Int
 | [],_=>-1
 | x::r,k=>if x.1.toList==nm.toList then k else ixFrom nm r (k+1)
def predIx (l:P9)(nm:B8):Int:=ixFrom nm l 0
theorem row_cell {w:W8}{base:Nat}{e:TypeId}{v:Value}{n:Nat}{xs:V8}(h:w.ownsRow base e 1 v n xs)(hn:0<n):∃ g cap,v=.slice (some ⟨g,0,none⟩) n cap/\base<=g/\n<=cap/\cap<=maxLen/\∀ k,k<n->w.cell? ⟨g,k,none⟩=xs[k]?:=by
 rcases h.2 with⟨_,h0⟩ | ⟨g,cap,cur,rfl,hb,hg,dG,dx,eZ,ht⟩
 ·omega
 ·refine⟨g,cap,rfl,hb,dG,dx,λ k hk=>?_⟩;exact h.cellAt k (by omega)
theorem infoString:(Tryz.prog.info? 9).map (λ i=>(i.zero,i.size,i.bytes))=some (some (.string { data:=#[] }),1,16):=by kernel_rfl
theorem infoInt:(Tryz.prog.info? 3).map (λ i=>(i.zero,i.size,i.bytes))=some (some (.int .i64 0),1,8):=by kernel_rfl
def meetP (ps:P9)(nm:B8)(n:Nat):P9:=if predIx ps nm<0 then ps++[(nm,n)] else ps
def meetB (ps:P9)(nm:B8)(n:Nat):Bool:=if predIx ps nm<0 then true else ((ps.getD (predIx ps nm).toNat (nm,0)).2:Int)==n
theorem ix_lt (nm:B8):∀ (l:P9) (k:Nat),0<=ixFrom nm l k->(k:Int)<=ixFrom nm l k/\ixFrom nm l k<k+l.length
 | [],k,h=>by simp[ixFrom] at h
 | x::r,k,h=>by
  unfold ixFrom at h ⊢
  split
  ·simp;omega
  ·rename_i bG;rw[if_neg bG] at h;have:=ix_lt nm r (k+1) h;simp;omega
theorem predIx_lt {ps:P9}{nm:B8}(h:0<=predIx ps nm):(predIx ps nm).toNat<ps.length:=by
 have:=ix_lt nm ps 0 h;unfold predIx at *;omega
end
section
open Go.RowKit
def meetAll:List RAtom->P9->Int × P9
 | [],ps=>(-1,ps)
 | A::r,ps=>if meetB ps A.pred A.aS.length then meetAll r (meetP ps A.pred A.aS.length) else (A.at_,meetP ps A.pred A.aS.length)
def RRule.atoms (R:RRule):List RAtom:=R.head::R.body
theorem own_max {w:W8}{base:Nat}{e:TypeId}{size:Nat}{v:Value}{n:Nat}{xs:V8}(h:w.ownsRow base e size v n xs):n<=maxLen:=by
 rcases h.2 with⟨_,h0⟩ | ⟨g,cap,cur,_,_,_,h1,h2,_⟩ <;> omega
end
section
open Go.RowKit
def j6 (nm:B8)(t:RTerm):Bool:=t.isVar&&t.text.toList==nm.toList
def saidA (nm:B8)(A:RAtom):Bool:=!A.no&&A.aS.any (j6 nm)
def saidB (nm:B8)(l:List RAtom):Bool:=l.any (saidA nm)
theorem any_step {α:Type}{f:α->Bool}{l:List α}{k:Nat}(h:k<l.length):(l.drop k).any f=(f l[k]||(l.drop (k+1)).any f):=by
 rw[List.drop_eq_getElem_cons h,List.any_cons]
end
section
open Go.RowKit
def looseI (body:List RAtom):List RTerm->Int
 | []=>-1
 | t::r=>if t.isVar&&!saidB t.text body then t.at_ else looseI body r
end
section
open Go.RowKit
def looseBody (body:List RAtom):List RAtom->Int
 | []=>-1
 | A::r=>if 0<=(if A.no then looseI body A.aS else -1) then looseI body A.aS else looseBody body r
def looseRule (R:RRule):Int:=if 0<=looseI R.body R.head.aS then looseI R.body R.head.aS else looseBody R.body R.body
def unsafeI:List RRule->Int
 | []=>-1
 | R::r=>if 0<=looseRule R then looseRule R else unsafeI r
end
section
open Go.RowKit
def upd (M:Nat->Nat->Bool)(i j:Nat):Nat->Nat->Bool:=λ a b=>(decide (a=i)&&decide (b=j))||M a b
theorem infoBool:(Tryz.prog.info? 4).map (λ i=>(i.zero,i.size,i.bytes))=some (some (.bool false),1,1):=by kernel_rfl
theorem infoBools:(Tryz.prog.info? 143).map (λ i=>(i.zero,i.size,i.bytes))=some (some (.slice none 0 0),1,24):=by kernel_rfl
theorem make_rows (n:Nat)(hn:n<=1000)(u:W8):(Instr.makeSlice 314 (.int .i64 n) (.int .i64 n)).run Tryz.prog u=.ok (.slice (some ⟨u.heap.size,0,none⟩) n n) (u.alloc (.cells (madeCells #[.slice none 0 0] n) 143)):=by
 obtain⟨i0,hi,dK,ir,bZ⟩:=info_parts infoBools;have h:=run_make (P:=Tryz.prog) u 314 143 i0 (.slice none 0 0) Tryz.underlying314 hi dK .i64 .i64 (n:Int) (n:Int) (by omega) (Int.le_refl _) (by rw[bZ];omega) (by omega);simpa[ir,Value.cells] using h
theorem make_row (n:Nat)(hn:n<=1000)(u:W8):(Instr.makeSlice 143 (.int .i64 n) (.int .i64 n)).run Tryz.prog u=.ok (.slice (some ⟨u.heap.size,0,none⟩) n n) (u.alloc (.cells (madeCells #[.bool false] n) 4)):=by
 obtain⟨i0,hi,dK,ir,bZ⟩:=info_parts infoBool;have h:=run_make (P:=Tryz.prog) u 143 4 i0 (.bool false) Tryz.underlying143 hi dK .i64 .i64 (n:Int) (n:Int) (by omega) (Int.le_refl _) (by rw[bZ];omega) (by omega);simpa[ir,Value.cells] using h
theorem made_get (z:Value)(n i:Nat)(h:i<n):(madeCells #[z] n)[i]?=some z:=by
 have:=toList_madeCells_one z n;rw[<-Array.getElem?_toList,this,List.getElem?_replicate,if_pos h]
end
section
open Go.RowKit
def ixOf (ps:P9)(nm:B8):Nat:=(predIx ps nm).toNat
def edgesR (ps:P9)(h:Nat):List RAtom->(Nat->Nat->Bool)->(Nat->Nat->Bool)
 | [],M=>M
 | A::r,M=>edgesR ps h r (upd M h (ixOf ps A.pred))
def edges (ps:P9):List RRule->(Nat->Nat->Bool)->(Nat->Nat->Bool)
 | [],M=>M
 | R::r,M=>edges ps r (edgesR ps (ixOf ps R.head.pred) R.body M)
def fwK (n m i:Nat)(M:Nat->Nat->Bool)(k:Nat):Nat->Nat->Bool:=
 if k<n then fwK n m i (if M i m&&M m k then upd M i k else M) (k+1) else M
termination_by n-k
def fwI (n m:Nat)(M:Nat->Nat->Bool)(i:Nat):Nat->Nat->Bool:=
 if i<n then fwI n m (fwK n m i M 0) (i+1) else M
termination_by n-i
def fwM (n:Nat)(M:Nat->Nat->Bool)(m:Nat):Nat->Nat->Bool:=
 if m<n then fwM n (fwI n m M 0) (m+1) else M
termination_by n-m
variable {k n m i:Nat} {M:Nat->Nat->Bool}
theorem fwK_go (h:k<n):fwK n m i M k=fwK n m i (if M i m&&M m k then upd M i k else M) (k+1):=by rw[fwK,if_pos h]
theorem fwK_end (h:¬ k<n):fwK n m i M k=M:=by rw[fwK,if_neg h]
theorem fwI_go (h:i<n):fwI n m M i=fwI n m (fwK n m i M 0) (i+1):=by rw[fwI,if_pos h]
theorem fwI_end (h:¬ i<n):fwI n m M i=M:=by rw[fwI,if_neg h]
theorem fwM_go (h:m<n):fwM n M m=fwM n (fwI n m M 0) (m+1):=by rw[fwM,if_pos h]
theorem fwM_end (h:¬ m<n):fwM n M m=M:=by rw[fwM,if_neg h]
def hangsM (ps:P9)(rs:List RRule):Nat->Nat->Bool:=fwM ps.length (edges ps rs (λ _ _=>false)) 0
def AllIn (ps:P9)(l:List RAtom):Prop:=∀ A∈l,0<=predIx ps A.pred
end
section
open Go.RowKit
def cycB (ps:P9)(H:Nat->Nat->Bool)(hd:B8)(A:RAtom):Bool:=A.no&&(predIx ps A.pred==predIx ps hd||H (ixOf ps A.pred) (ixOf ps hd))
def cycBody (ps:P9)(H:Nat->Nat->Bool)(hd:B8):List RAtom->Int
 | []=>-1
 | A::r=>if cycB ps H hd A then A.sf else cycBody ps H hd r
def cycleI (ps:P9)(H:Nat->Nat->Bool):List RRule->Int
 | []=>-1
 | R::r=>if 0<=cycBody ps H R.head.pred R.body then cycBody ps H R.head.pred R.body else cycleI ps H r
end
section
open Go.RowKit
def Keeps (ps:P9)(f:Nat->Nat)(hd:B8)(A:RAtom):Prop:=f (ixOf ps A.pred)+(if A.no then 1 else 0)<=f (ixOf ps hd)
def Valid (ps:P9)(rs:List RRule)(f:Nat->Nat):Prop:=∀ R∈rs,∀ A∈R.body,Keeps ps f R.head.pred A
def iH (S:Nat->Nat)(i v:Nat):Nat->Nat:=λ a=>if a=i then v else S a
theorem make_ints (n:Nat)(hn:n<=1000)(u:W8):(Instr.makeSlice 24 (.int .i64 n) (.int .i64 n)).run Tryz.prog u=.ok (.slice (some ⟨u.heap.size,0,none⟩) n n) (u.alloc (.cells (madeCells #[.int .i64 0] n) 3)):=by
 obtain⟨i0,hi,dK,ir,bZ⟩:=info_parts infoInt;have h:=run_make (P:=Tryz.prog) u 24 3 i0 (.int .i64 0) Tryz.underlying24 hi dK .i64 .i64 (n:Int) (n:Int) (by omega) (Int.le_refl _) (by rw[bZ];omega) (by omega);simpa[ir,Value.cells] using h
end
section
open Go.RowKit
def ruleBad1 (s:B8)(p:Nat)(bd:Int)(n:Nat):Int:=if n==30 then failS s p bd else bd
def ruleOf (s:B8)(p:Nat)(bd:Int):RRule:=⟨gV s p bd,(bodyOf s p bd).1⟩
def goesOn (s:B8)(p:Nat)(bd:Int):Bool:=(tok s p).kind != 46&&decide (bd<0)
def rulesS (s:B8):Nat->Nat->Int->List RRule->List RRule × Nat × Int
 | 0,p,bd,l=>(l,p,bd)
 | f+1,p,bd,l=>if goesOn s p bd then rulesS s f (rulePos s p (ruleBad1 s p bd l.length)) (ruleBad s p (ruleBad1 s p bd l.length)) (l++[ruleOf s p (ruleBad1 s p bd l.length)]) else (l,p,bd)
theorem rules_end (s:B8)(f p:Nat)(bd:Int)(l:List RRule)(hg:goesOn s p bd=false):rulesS s f p bd l=(l,p,bd):=by
 cases f with
 | zero=>rfl
 | succ f=>rw[rulesS,if_neg (by rw[hg];decide)]
def parsed (s:B8):List RRule × Nat × Int:=rulesS s 31 0 (-1) []
def aj (s:B8):Int × P9:=meetAll ((parsed s).1.flatMap RRule.atoms) []
def refLoad (s:B8):Bool × Int × Int:=
 if 800<s.size then (false,1,0)
 else if 0<=(parsed s).2.2 then (false,2,(parsed s).2.2)
 else if 0<=(aj s).1 then (false,3,(aj s).1)
 else if 0<=unsafeI (parsed s).1 then (false,4,unsafeI (parsed s).1)
 else if 0<=cycleI (aj s).2 (hangsM (aj s).2 (parsed s).1) (parsed s).1 then (false,5,cycleI (aj s).2 (hangsM (aj s).2 (parsed s).1) (parsed s).1)
 else (true,0,0)
end
section
theorem ix_append (nm:B8)(m:P9):∀ (l:P9) (k:Nat),0<=ixFrom nm l k->ixFrom nm (l++m) k=ixFrom nm l k
 | [],k,h=>by simp[ixFrom] at h
 | x::r,k,h=>by
  rw[List.cons_append];unfold ixFrom at h ⊢
  split
  ·rfl
  ·rename_i bG;rw[if_neg bG] at h;exact ix_append nm m r (k+1) h
theorem ix_last (nm:B8)(n:Nat):∀ (l:P9) (k:Nat),0<=ixFrom nm (l++[(nm,n)]) k
 | [],k=>by simp[ixFrom]
 | x::r,k=>by
  rw[List.cons_append];unfold ixFrom
  split
  ·omega
  ·exact ix_last nm n r (k+1)
theorem meetP_in (ps:P9)(nm:B8)(n:Nat):0<=predIx (meetP ps nm n) nm:=by
 unfold meetP;split
 ·exact ix_last nm n ps 0
 ·omega
theorem meetP_keeps (ps:P9)(nm:B8)(n:Nat)(x:B8)(h:0<=predIx ps x):0<=predIx (meetP ps nm n) x:=by
 unfold meetP;split
 ·unfold predIx at *;rw[ix_append x _ ps 0 h];exact h
 ·exact h
theorem meetAll_in (l:List RAtom):∀ ps,(meetAll l ps).1<0->(∀ A∈l,0<=predIx (meetAll l ps).2 A.pred)/\(∀ nm,0<=predIx ps nm->0<=predIx (meetAll l ps).2 nm):=by
 induction l with
 | nil=>intro ps _;exact⟨by simp,λ nm h=>h⟩
 | cons A r ih=>
  intro ps h;rw[meetAll] at h ⊢
  split
  ·rename_i hb;rw[if_pos hb] at h;obtain⟨h1,h2⟩:=ih _ h;refine⟨λ B hB=>?_,λ nm hn=>h2 nm (meetP_keeps ps A.pred A.aS.length nm hn)⟩;rcases List.mem_cons.1 hB with rfl | hB
   ·exact h2 _ (meetP_in ps B.pred B.aS.length)
   ·exact h1 B hB
  ·rename_i hb;rw[if_neg hb] at h;simp at h;omega
theorem allIn_of_meet (l:List RAtom)(h:¬ 0<=(meetAll l []).1):AllIn (meetAll l []).2 l:=(meetAll_in l [] (by omega)).1
theorem fwK_eq (n m i:Nat):∀ (d k:Nat) (M:Nat->Nat->Bool),n-k=d->∀ a b,fwK n m i M k a b=(M a b||(decide (a=i)&&decide (k<=b)&&decide (b<n)&&M i m&&M m b)):=by
 intro d
 induction d with
 | zero=>
  intro k M hd a b;rw[fwK_end (by omega)];have:¬ (k<=b/\b<n):=by omega
  by_cases h1:k<=b <;> by_cases h2:b<n <;> simp[h1,h2] <;> omega
 | succ d ih=>
  intro k M hd a b;rw[fwK_go (by omega),ih (k+1) _ (by omega) a b];have hM:∀ a b,(if M i m&&M m k then upd M i k else M) a b=(M a b||(decide (a=i)&&decide (b=k)&&M i m&&M m k)):=by
   intro a b
   cases h1:M i m <;> cases h2:M m k <;> simp[upd,Bool.or_comm]
  rw[hM a b,hM i m,hM m b];have CK:k<n:=by omega
  by_cases e1:a=i
  ·by_cases e2:b=k
   ·subst e2
    cases M a b <;> cases M i m <;> cases M m b <;> simp[e1,CK]
   ·by_cases e3:k<=b
    ·have e4:k+1<=b:=by omega
     cases M a b <;> cases M i m <;> cases M m b <;> simp[e1,e2,e3,e4]
    ·have e4:¬ k+1<=b:=by omega
     cases M a b <;> simp[e2,e3,e4]
  ·cases M a b <;> simp[e1]
theorem fwI_eq (n m:Nat):∀ (d i:Nat) (M:Nat->Nat->Bool),n-i=d->∀ a b,fwI n m M i a b=(M a b||(decide (i<=a)&&decide (a<n)&&decide (b<n)&&M a m&&M m b)):=by
 intro d
 induction d with
 | zero=>
  intro i M hd a b;rw[fwI_end (by omega)]
  by_cases h1:i<=a <;> by_cases h2:a<n <;> simp[h1,h2] <;> omega
 | succ d ih=>
  intro i M hd a b;have hM:=fwK_eq n m i _ 0 M rfl;rw[fwI_go (by omega),ih (i+1) _ (by omega) a b,hM a b,hM a m,hM m b];have ak:i<n:=by omega
  by_cases e1:a=i
  ·subst e1;have e4:¬ a+1<=a:=by omega
   cases M a b <;> cases M a m <;> cases M m b <;> simp[e4,ak]
  ·by_cases e3:i<=a
   ·have e4:i+1<=a:=by omega
    by_cases e5:m=i
    ·subst e5
     cases M a b <;> cases M a m <;> cases M m b <;> cases M m m <;> simp[e1,e3,e4]
    ·cases M a b <;> cases M a m <;> cases M m b <;> simp[e1,e3,e4,e5]
   ·have e4:¬ i+1<=a:=by omega
    cases M a b <;> simp[e1,e3,e4]
theorem fwM_closes (n:Nat):∀ (d m:Nat) (M:Nat->Nat->Bool),n-m=d->m<=n->(∀ i j k,i<n->k<n->j<m->M i j=true->M j k=true->M i k=true) ->
  (∀ i j k,i<n->k<n->j<n->fwM n M m i j=true->fwM n M m j k=true->fwM n M m i k=true)/\(∀ i k,M i k=true->fwM n M m i k=true):=by
 intro d
 induction d with
 | zero=>
  intro m M hd jB h;rw[fwM_end (by omega)];exact⟨λ i j k hi hk hj=>h i j k hi hk (by omega),λ i k h=>h⟩
 | succ d ih=>
  intro m M hd jB h;have hm:m<n:=by omega
  have hM:=fwI_eq n m _ 0 M rfl;rw[fwM_go hm];have iq:∀ i j k,i<n->k<n->j<m+1->fwI n m M 0 i j=true->fwI n m M 0 j k=true->fwI n m M 0 i k=true:=by
   intro i j k hi hk hj h1 h2;have FD:j<n:=(by omega);rw[hM] at h1 h2 ⊢;simp only[Nat.zero_le,decide_true,Bool.true_and,hi,FD,hk,Bool.or_eq_true,Bool.and_eq_true] at h1 h2 ⊢
   by_cases ej:j=m
   ·subst ej;have a1:M i j=true:=(by rcases h1 with h1 | h1;exact h1;exact h1.1);have a2:M j k=true:=(by rcases h2 with h2 | h2;exact h2;exact h2.2);exact .inr ⟨a1,a2⟩
   ·have CI:j<m:=(by omega);rcases h1 with h1 | ⟨h1,vC⟩ <;> rcases h2 with h2 | ⟨h2,rX⟩
    ·exact .inl (h i j k hi hk CI h1 h2)
    ·exact .inr ⟨h i j m hi hm CI h1 h2,rX⟩
    ·exact .inr ⟨h1,h m j k hm hk CI vC h2⟩
    ·exact .inr ⟨h1,rX⟩
  obtain⟨g1,g2⟩:=ih (m+1) (fwI n m M 0) (by omega) (by omega) iq;exact⟨g1,λ i k hik=>g2 i k (by rw[hM,hik];rfl)⟩
variable {i j:Nat}
theorem upd_mono {M:Nat->Nat->Bool}{a b:Nat}(h:M a b=true):upd M i j a b=true:=by simp[upd,h]
variable {h:Nat} {ps:P9}
theorem edgesR_mono (l:List RAtom):∀ {M:Nat->Nat->Bool} {a b:Nat},M a b=true->edgesR ps h l M a b=true:=by
 induction l with
 | nil=>intro M a b hM;exact hM
 | cons A r ih=>intro M a b hM;exact ih (upd_mono hM)
theorem edges_mono (l:List RRule):∀ {M:Nat->Nat->Bool} {a b:Nat},M a b=true->edges ps l M a b=true:=by
 induction l with
 | nil=>intro M a b hM;exact hM
 | cons R r ih=>intro M a b hM;exact ih (edgesR_mono R.body hM)
theorem edgesR_has (l:List RAtom):∀ {M:Nat->Nat->Bool} {A:RAtom},A∈l->edgesR ps h l M h (ixOf ps A.pred)=true:=by
 induction l with
 | nil=>intro M A hA;cases hA
 | cons B r ih=>
  intro M A hA;rcases List.mem_cons.1 hA with rfl | hA
  ·exact edgesR_mono r (by simp[upd])
  ·exact ih hA
theorem edges_has (l:List RRule):∀ {M:Nat->Nat->Bool} {R:RRule} {A:RAtom},R∈l->A∈R.body->edges ps l M (ixOf ps R.head.pred) (ixOf ps A.pred)=true:=by
 induction l with
 | nil=>intro M R A hR;cases hR
 | cons B r ih=>
  intro M R A hR hA;rcases List.mem_cons.1 hR with rfl | hR
  ·exact edges_mono r (edgesR_has R.body hA)
  ·exact ih hR hA
variable {rs:List RRule}
theorem fW {R:RRule}{A:RAtom}(hR:R∈rs)(hA:A∈R.body):hangsM ps rs (ixOf ps R.head.pred) (ixOf ps A.pred)=true:=
 (fwM_closes ps.length _ 0 _ rfl (Nat.zero_le _) (by intro i j k _ _ hj;omega)).2 _ _ (edges_has rs hR hA)
theorem hangs_trans {k:Nat}(hi:i<ps.length)(hj:j<ps.length)(hk:k<ps.length)(h1:hangsM ps rs i j=true)(h2:hangsM ps rs j k=true):hangsM ps rs i k=true:=
 (fwM_closes ps.length _ 0 (edges ps rs (λ _ _=>false)) rfl (Nat.zero_le _) (by intro i j k _ _ hj;omega)).1 i j k hi hk hj h1 h2
variable {H:Nat->Nat->Bool}
theorem cycBody_no {hd:B8}(l:List RAtom)(h:cycBody ps H hd l<0):∀ A∈l,cycB ps H hd A=false:=by
 induction l with
 | nil=>simp
 | cons B r ih=>
  rw[cycBody] at h
  split at h
  ·omega
  ·rename_i hb;intro A hA;rcases List.mem_cons.1 hA with rfl | hA
   ·simpa using hb
   ·exact ih h A hA
theorem cycle_no (l:List RRule)(h:cycleI ps H l<0):∀ R∈l,∀ A∈R.body,cycB ps H R.head.pred A=false:=by
 induction l with
 | nil=>simp
 | cons B r ih=>
  rw[cycleI] at h
  split at h
  ·omega
  ·rename_i hb;intro R hR;rcases List.mem_cons.1 hR with rfl | hR
   ·exact cycBody_no R.body (by omega)
   ·exact ih h R hR
theorem countP_lt {α:Type}{p r:α->Bool}(l:List α)(h:∀ x∈l,p x=true->r x=true){y:α}(hy:y∈l)(hr:r y=true)(hp:p y=false):l.countP p+1<=l.countP r:=by
 induction l with
 | nil=>cases hy
 | cons x t ih=>
  have hm:t.countP p<=t.countP r:=List.countP_mono_left (λ z hz=>h z (List.mem_cons_of_mem _ hz));rcases List.mem_cons.1 hy with rfl | hy
  ·rw[List.countP_cons_of_pos hr,List.countP_cons_of_neg (by rw[hp];decide)];omega
  ·have h1:=ih (λ z hz=>h z (List.mem_cons_of_mem _ hz)) hy
   cases e:p x with
   | true=>rw[List.countP_cons_of_pos e,List.countP_cons_of_pos (h x List.mem_cons_self e)];omega
   | false=>
    rw[List.countP_cons_of_neg (by rw[e];decide)];have:t.countP r<=(x::t).countP r:=by
     cases e2:r x with
     | true=>rw[List.countP_cons_of_pos e2];omega
     | false=>rw[List.countP_cons_of_neg (by rw[e2];decide)];omega
    omega
def negR (ps:P9)(rs:List RRule)(p x:Nat):Bool:=
 rs.any λ R=>R.body.any λ A=>A.no&&((p==ixOf ps R.head.pred||hangsM ps rs p (ixOf ps R.head.pred))&&(ixOf ps A.pred==x||hangsM ps rs (ixOf ps A.pred) x))
theorem valid_of_cycle (ps:P9)(rs:List RRule)(bh:AllIn ps (rs.flatMap RRule.atoms))(h:¬ 0<=cycleI ps (hangsM ps rs) rs):∃ f,Valid ps rs f/\∀ i,f i<=ps.length:=by
 have cP:=cycle_no rs (show cycleI ps (hangsM ps rs) rs<0 by omega);have nC:∀ R∈rs,0<=predIx ps R.head.pred:=λ R hR=>bh _ (List.mem_flatMap.2 ⟨R,hR,List.mem_cons_self⟩)
 have cU:∀ R∈rs,∀ A∈R.body,0<=predIx ps A.pred:=λ R hR A hA=>bh _ (List.mem_flatMap.2 ⟨R,hR,List.mem_cons_of_mem _ hA⟩)
 have DG:∀ R∈rs,ixOf ps R.head.pred<ps.length:=λ R hR=>predIx_lt (nC R hR)
 have AN:∀ R∈rs,∀ A∈R.body,ixOf ps A.pred<ps.length:=λ R hR A hA=>predIx_lt (cU R hR A hA)
 refine⟨λ p=>(List.range ps.length).countP (negR ps rs p),λ R hR A hA=>?_,λ i=>by have:=List.countP_le_length (p:=negR ps rs i) (l:=List.range ps.length);simpa using this⟩;have FW:=fW (ps:=ps) hR hA;have himp:∀ x∈List.range ps.length,negR ps rs (ixOf ps A.pred) x=true->negR ps rs (ixOf ps R.head.pred) x=true:=by
  intro x _ hx;unfold negR at hx ⊢;simp only[List.any_eq_true,Bool.and_eq_true,Bool.or_eq_true,beq_iff_eq] at hx ⊢;obtain⟨R',qf,A',xH,hn,h1,h2⟩:=hx;refine⟨R',qf,A',xH,hn,.inr ?_,h2⟩;rcases h1 with h1 | h1
  ·rw[<-h1];exact FW
  ·exact hangs_trans (DG R hR) (AN R hR A hA) (DG R' qf) FW h1
 unfold Keeps
 cases Dc:A.no with
 | false=>
  simp only[Bool.false_eq_true,if_false,Nat.add_zero];exact List.countP_mono_left himp
 | true=>
  simp only[if_true];refine countP_lt _ himp (y:=ixOf ps A.pred) (List.mem_range.2 (AN R hR A hA)) ?_ ?_
  ·unfold negR;simp only[List.any_eq_true,Bool.and_eq_true,Bool.or_eq_true,beq_iff_eq];exact⟨R,hR,A,hA,Dc,.inl rfl,.inl rfl⟩
  ·cases hq:negR ps rs (ixOf ps A.pred) (ixOf ps A.pred) with
   | false=>rfl
   | true=>
    exfalso
    unfold negR at hq;simp only[List.any_eq_true,Bool.and_eq_true,Bool.or_eq_true,beq_iff_eq] at hq;obtain⟨R',qf,A',xH,hn,h1,h2⟩:=hq;have hc:=cP R' qf A' xH;unfold cycB at hc;rw[hn,Bool.true_and,Bool.or_eq_false_iff] at hc;obtain⟨mC,nA⟩:=hc;have lq:=AN R hR A hA;have la:=DG R' qf;have lb:=AN R' qf A' xH;have key:ixOf ps A'.pred=ixOf ps R'.head.pred\/hangsM ps rs (ixOf ps A'.pred) (ixOf ps R'.head.pred)=true:=by
     rcases h2 with h2 | h2 <;> rcases h1 with h1 | h1
     ·exact .inl (h2.trans h1)
     ·exact .inr (by rw[h2];exact h1)
     ·exact .inr (by rw[<-h1];exact h2)
     ·exact .inr (hangs_trans lb lq la h2 h1)
    rcases key with key | key
    ·have p1:=cU R' qf A' xH;have p2:=nC R' qf;unfold ixOf at key;have:predIx ps A'.pred=predIx ps R'.head.pred:=by omega
     rw[this] at mC;simp at mC
    ·rw[key] at nA;cases nA
end
end Go.Proofs.YtldkpahaocjdpaaGreat
