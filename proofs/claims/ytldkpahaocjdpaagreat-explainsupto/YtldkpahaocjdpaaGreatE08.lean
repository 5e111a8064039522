/-
  The reference's parser: atom, at every text and place: the plain text's atom (RefAtomS), its terms in a row of its own; nothing else of old memory has turned but the parser.
-/
import Derived.Test.YtldkpahaocjdpaaGreatE07
set_option maxHeartbeats 16000000
set_option maxRecDepth 1000000
namespace Go.Proofs.YtldkpahaocjdpaaGreat
section
open Go.RowKit
theorem I6 (s:B8)(pos:Nat)(bad:Int)(b:Nat)(w:W8)(h:dR w b s pos bad)(aJ:pos<=s.size)(hs:s.size<=maxLen):
  Calls Tryz.prog 184 #[.pointer (some ⟨b,0,none⟩)] w λ e w'=>∃ v,e=.returned (.agg #[.string (tok s pos).text,v,.bool false,.int .i64 (tok s pos).at_,.int .i64 0])/\zK [b] w w'/\dR w' b s (zH s pos bad).2.1 (zH s pos bad).2.2/\(zH s pos bad).2.1<=s.size/\w'.ownsRow w.heap.size 317 3 v (zH s pos bad).1.length (cellsOf (zH s pos bad).1):=by
 cases hk:(tok s pos).kind != 110 with
 | false=>exact z0d s pos bad b w h aJ hs hk
 | true=>exact z5v s pos bad b w h aJ hs hk
end
section
open Go.RowKit
def zj9 (s:B8)(pos:Nat)(bad:Int):Bool:=decide (bad<0)&&(tok s pos).kind==119
def yX (s:B8)(pos:Nat)(bad:Int):Nat:=if zj9 s pos bad then zW s pos bad else pos
def vS (s:B8)(pos:Nat)(bad:Int):Int:=if zj9 s pos bad then zU s pos bad else bad
def vC (s:B8)(pos:Nat)(bad:Int):zL:=
 ⟨(tok s (yX s pos bad)).text,(zH s (yX s pos bad) (vS s pos bad)).1,zj9 s pos bad,(tok s (yX s pos bad)).at_,(tok s pos).at_⟩
def yE (s:B8)(pos:Nat)(bad:Int):Nat × Int:=(zH s (yX s pos bad) (vS s pos bad)).2
def zL.val (A:zL)(tv:Value):Value:=.agg #[.string A.pred,tv,.bool A.no,.int .i64 A.at_,.int .i64 A.az]
theorem vN (w:W8)(a b c d e:Value)(t:TypeId)(j:Nat):(w.alloc (.cells #[a,b,c,d,e] t)).cell? ⟨w.heap.size,j,none⟩=#[a,b,c,d,e][j]?:=by
 rw[World.cell?_alloc_at _ _ _ _ rfl]
variable {w:W8}
theorem qX {n j:Nat}{v:Value}(h:w.cell? ⟨n,j,none⟩=some v)(o:Obj):(w.alloc o).cell? ⟨n,j,none⟩=some v:=by
 rw[World.cell?_alloc_past _ _ _ (World.block_lt_of_cell? w ⟨n,j,none⟩ h)];exact h
variable {bad:Int} {pos:Nat} {s:B8}
theorem Ov (h:pos<=s.size):yX s pos bad<=s.size:=by
 unfold yX;split
 ·exact zR s pos bad h
 ·exact h
theorem zu2 {b:Nat}{w2 w':W8}{o:Obj}{tv:Value}(aH:b<w.heap.size)(bn:zK [b] (w.alloc o) w2)(eM:dR w2 b s (zH s (yX s pos bad) (vS s pos bad)).2.1 (zH s (yX s pos bad) (vS s pos bad)).2.2)
  (ay:w2.ownsRow w.heap.size 317 3 tv (zH s (yX s pos bad) (vS s pos bad)).1.length (cellsOf (zH s (yX s pos bad) (vS s pos bad)).1)) (lg:(zH s (yX s pos bad) (vS s pos bad)).2.1<=s.size) (k:zK [w.heap.size] w2 w') (aB:∀ g,tv.ownBlock=some g->w.heap.size<g):
  zK [b] w w'/\dR w' b s (yE s pos bad).1 (yE s pos bad).2/\(yE s pos bad).1<=s.size/\w'.ownsRow w.heap.size 317 3 tv (vC s pos bad).ae.length (cellsOf (vC s pos bad).ae):=by
 have hx:=((zK.refl [b] w).alloc o).trans bn;refine⟨⟨k.os.trans hx.os,k.tape.trans hx.tape,k.output.trans hx.output,Nat.le_trans hx.size k.size,λ i hi hn=>(k.block i (Nat.lt_of_lt_of_le hi hx.size) (by simp;omega)).trans (hx.block i hi hn)⟩,eM.kept k (by simp;omega),lg,?_⟩;refine⟨ay.1,?_⟩;rcases ay.2 with hn | ⟨g,cap,cur,rfl,hb,bS,rest⟩
 ·exact .inl hn
 ·refine .inr ⟨g,cap,cur,rfl,hb,?_,rest⟩;have:=aB g rfl;rw[k.block g (Array.getElem?_eq_some_iff.1 bS).1 (by simp;omega)];exact bS
theorem z32 (s:B8)(pos:Nat)(bad:Int)(b:Nat)(w:W8)(h:dR w b s pos bad)(aJ:pos<=s.size)(hs:s.size<=maxLen):
  Calls Tryz.prog 186 #[.pointer (some ⟨b,0,none⟩)] w λ e w'=>∃ tv,e=.returned ((vC s pos bad).val tv)/\zK [b] w w'/\dR w' b s (yE s pos bad).1 (yE s pos bad).2/\(yE s pos bad).1<=s.size/\w'.ownsRow w.heap.size 317 3 tv (vC s pos bad).ae.length (cellsOf (vC s pos bad).ae):=by
 have h':=h;obtain⟨aH,c0,c1,c2,c3,c4,c5,fz⟩:=h;have three:(bad<0/\((tok s pos).kind==119)=true/\zj9 s pos bad=true)\/(bad<0/\((tok s pos).kind==119)=false/\zj9 s pos bad=false)\/(0<=bad/\zj9 s pos bad=false):=by
  unfold zj9
  by_cases hb:bad<0
  ·cases hk:(tok s pos).kind==119 <;> simp[hb]
  ·exact .inr (.inr ⟨by omega,by simp;omega⟩)
 rcases three with⟨hb,hk,aW⟩ | ⟨hb,hk,aW⟩ | ⟨hb,aW⟩
 ·have e1:yX s pos bad=zW s pos bad:=by simp[yX,aW]
  have e2:vS s pos bad=zU s pos bad:=by simp[vS,aW]
  have HN:=zC aW;have HE:=zC (And.intro e1 e2);clear aW e1 e2;go_enter Tryz.func186,Tryz.ntmps186;go_wp2_with fail;refine (jR s pos bad b _ (h'.kept ((zK.refl [] _).alloc _) (by simp)) aJ hs).mono ?_;rintro e w1 ⟨rfl,aX,bI⟩;rw[<-(zA HE).1,<-(zA HE).2] at bI;clear c0 c1 c2 c3 c4 c5 fz;go_wp2_with fail;refine (I6 s (yX s pos bad) (vS s pos bad) b _ bI (Ov aJ) hs).mono ?_;rintro e w2 ⟨tv,rfl,qm,eM,lg,ey⟩;have ei:=zG ey (show w.heap.size<=w1.heap.size by have:=aX.size;simp at this;omega);have HG:=zC (λ g e=>Nat.lt_of_lt_of_le (show w.heap.size<w1.heap.size by have:=aX.size;simp at this;omega) (ey.lt g e).1);have bn:=aX.trans qm;clear qm aX bI ey;obtain⟨a0,cz,rfl⟩:=zD ei;obtain⟨r1,r2⟩:=bn.rules;have hz:w.heap.size<w2.heap.size:=by have:=bn.size;simp at this;omega
  go_wp2_with fail;obtain⟨q0,q1,q2,q3,q4⟩:=z8p ((r1 _ _ aH (by simp)).trans (vN w _ _ _ _ _ _ 0)) ((r1 _ _ aH (by simp)).trans (vN w _ _ _ _ _ _ 1)) ((r1 _ _ aH (by simp)).trans (vN w _ _ _ _ _ _ 2)) ((r1 _ _ aH (by simp)).trans (vN w _ _ _ _ _ _ 3)) ((r1 _ _ aH (by simp)).trans (vN w _ _ _ _ _ _ 4)) (.string (tok s (yX s pos bad)).text) (.slice a0 (zH s (yX s pos bad) (vS s pos bad)).fst.length cz) (.bool true) (.int .i64 (tok s (yX s pos bad)).at_) (.int .i64 (tok s pos).at_);have k5:=zpc w2 w.heap.size (.string (tok s (yX s pos bad)).text) (.slice a0 (zH s (yX s pos bad) (vS s pos bad)).fst.length cz) (.bool true) (.int .i64 (tok s (yX s pos bad)).at_) (.int .i64 (tok s pos).at_);have q0:=qX q0;have q1:=qX q1;have q2:=qX q2;have q3:=qX q3;have q4:=qX q4;refine bodyPost_ret (v:=(vC s pos bad).val (.slice a0 (zH s (yX s pos bad) (vS s pos bad)).fst.length cz)) (by simp[results,Tryz.results186,go_sem,vC,zL.val,zA HN,q0,q1,q2,q3,q4]) rfl ⟨_,rfl,?_⟩;exact zu2 aH bn eM ei lg (k5.alloc _) (zA HG)
 ·have Bc:yX s pos bad=pos:=by simp[yX,aW]
  have e2:vS s pos bad=bad:=by simp[vS,aW]
  have bI:dR (w.alloc (Obj.cells #[.string { data:=#[] },.slice none 0 0,.bool false,.int IntKind.i64 0,.int IntKind.i64 0] 243)) b s (yX s pos bad) (vS s pos bad):=by rw[Bc,e2];exact h'.kept ((zK.refl [] _).alloc _) (by simp)
  have HN:=zC aW;clear aW Bc e2;go_enter Tryz.func186,Tryz.ntmps186;go_wp2_with fail;clear c0 c1 c2 c3 c4 c5 fz;refine (I6 s (yX s pos bad) (vS s pos bad) b _ bI (Ov aJ) hs).mono ?_;rintro e w2 ⟨tv,rfl,bn,eM,lg,ey⟩;have ei:=zG ey (show w.heap.size<=_ by simp);have HG:=zC (λ g e=>Nat.lt_of_lt_of_le (show w.heap.size<_ by simp) (ey.lt g e).1);clear bI ey;obtain⟨a0,cz,rfl⟩:=zD ei;obtain⟨r1,r2⟩:=bn.rules;have hz:w.heap.size<w2.heap.size:=by have:=bn.size;simp at this;omega
  go_wp2_with fail;obtain⟨q0,q1,q2,q3,q4⟩:=z8p ((r1 _ _ aH (by simp)).trans (vN w _ _ _ _ _ _ 0)) ((r1 _ _ aH (by simp)).trans (vN w _ _ _ _ _ _ 1)) ((r1 _ _ aH (by simp)).trans (vN w _ _ _ _ _ _ 2)) ((r1 _ _ aH (by simp)).trans (vN w _ _ _ _ _ _ 3)) ((r1 _ _ aH (by simp)).trans (vN w _ _ _ _ _ _ 4)) (.string (tok s (yX s pos bad)).text) (.slice a0 (zH s (yX s pos bad) (vS s pos bad)).fst.length cz) (.bool false) (.int .i64 (tok s (yX s pos bad)).at_) (.int .i64 (tok s pos).at_);have k5:=zpc w2 w.heap.size (.string (tok s (yX s pos bad)).text) (.slice a0 (zH s (yX s pos bad) (vS s pos bad)).fst.length cz) (.bool false) (.int .i64 (tok s (yX s pos bad)).at_) (.int .i64 (tok s pos).at_);have q0:=qX q0;have q1:=qX q1;have q2:=qX q2;have q3:=qX q3;have q4:=qX q4;refine bodyPost_ret (v:=(vC s pos bad).val (.slice a0 (zH s (yX s pos bad) (vS s pos bad)).fst.length cz)) (by simp[results,Tryz.results186,go_sem,vC,zL.val,zA HN,q0,q1,q2,q3,q4]) rfl ⟨_,rfl,?_⟩;exact zu2 aH bn eM ei lg (k5.alloc _) (zA HG)
 ·have Bc:yX s pos bad=pos:=by simp[yX,aW]
  have e2:vS s pos bad=bad:=by simp[vS,aW]
  have bI:dR (w.alloc (Obj.cells #[.string { data:=#[] },.slice none 0 0,.bool false,.int IntKind.i64 0,.int IntKind.i64 0] 243)) b s (yX s pos bad) (vS s pos bad):=by rw[Bc,e2];exact h'.kept ((zK.refl [] _).alloc _) (by simp)
  have HN:=zC aW;clear aW Bc e2;go_enter Tryz.func186,Tryz.ntmps186;go_wp2_with fail;clear c0 c1 c2 c3 c4 c5 fz;refine (I6 s (yX s pos bad) (vS s pos bad) b _ bI (Ov aJ) hs).mono ?_;rintro e w2 ⟨tv,rfl,bn,eM,lg,ey⟩;have ei:=zG ey (show w.heap.size<=_ by simp);have HG:=zC (λ g e=>Nat.lt_of_lt_of_le (show w.heap.size<_ by simp) (ey.lt g e).1);clear bI ey;obtain⟨a0,cz,rfl⟩:=zD ei;obtain⟨r1,r2⟩:=bn.rules;have hz:w.heap.size<w2.heap.size:=by have:=bn.size;simp at this;omega
  go_wp2_with fail;obtain⟨q0,q1,q2,q3,q4⟩:=z8p ((r1 _ _ aH (by simp)).trans (vN w _ _ _ _ _ _ 0)) ((r1 _ _ aH (by simp)).trans (vN w _ _ _ _ _ _ 1)) ((r1 _ _ aH (by simp)).trans (vN w _ _ _ _ _ _ 2)) ((r1 _ _ aH (by simp)).trans (vN w _ _ _ _ _ _ 3)) ((r1 _ _ aH (by simp)).trans (vN w _ _ _ _ _ _ 4)) (.string (tok s (yX s pos bad)).text) (.slice a0 (zH s (yX s pos bad) (vS s pos bad)).fst.length cz) (.bool false) (.int .i64 (tok s (yX s pos bad)).at_) (.int .i64 (tok s pos).at_);have k5:=zpc w2 w.heap.size (.string (tok s (yX s pos bad)).text) (.slice a0 (zH s (yX s pos bad) (vS s pos bad)).fst.length cz) (.bool false) (.int .i64 (tok s (yX s pos bad)).at_) (.int .i64 (tok s pos).at_);have q0:=qX q0;have q1:=qX q1;have q2:=qX q2;have q3:=qX q3;have q4:=qX q4;refine bodyPost_ret (v:=(vC s pos bad).val (.slice a0 (zH s (yX s pos bad) (vS s pos bad)).fst.length cz)) (by simp[results,Tryz.results186,go_sem,vC,zL.val,zA HN,q0,q1,q2,q3,q4]) rfl ⟨_,rfl,?_⟩;exact zu2 aH bn eM ei lg (k5.alloc _) (zA HG)
end
section
open Go.RowKit
def zL.cells (A:zL)(tv:Value):V8:=[.string A.pred,tv,.bool A.no,.int .i64 A.at_,.int .i64 A.az]
def za2 (bs:List (zL × Value)):V8:=bs.flatMap λ x=>x.1.cells x.2
theorem zqg (l:List (zL × Value))(A:zL)(tv:Value):za2 (l++[(A,tv)])=za2 l++A.cells tv:=by simp[za2]
def zX (s:B8)(p:Nat)(bd:Int)(n:Nat):Int:=if n==3 then zav s p bd else bd
def zcy (s:B8):Nat->Nat->Int->List zL->List zL × Nat × Int
 | 0,p,bd,l=>(l,p,bd)
 | f+1,p,bd,l=>
  if dZ s (yE s p (zX s p bd l.length)).1 (yE s p (zX s p bd l.length)).2 { data:=#[44] } then
   zcy s f (vG s (yE s p (zX s p bd l.length)).1 (yE s p (zX s p bd l.length)).2 { data:=#[44] }) (vP s (yE s p (zX s p bd l.length)).1 (yE s p (zX s p bd l.length)).2 { data:=#[44] }) (l++[vC s p (zX s p bd l.length)])
  else (l++[vC s p (zX s p bd l.length)],vG s (yE s p (zX s p bd l.length)).1 (yE s p (zX s p bd l.length)).2 { data:=#[44] },vP s (yE s p (zX s p bd l.length)).1 (yE s p (zX s p bd l.length)).2 { data:=#[44] })
structure zS where
 head:zL
 body:List zL
def zI (s:B8)(pos:Nat)(bad:Int):zL:=⟨(tok s pos).text,(zH s pos bad).1,false,(tok s pos).at_,0⟩
def jN (s:B8)(pos:Nat)(bad:Int):List zL × Nat × Int:=
 if dZ s (zH s pos bad).2.1 (zH s pos bad).2.2 { data:=#[58,45] } then
  zcy s 4 (vG s (zH s pos bad).2.1 (zH s pos bad).2.2 { data:=#[58,45] }) (vP s (zH s pos bad).2.1 (zH s pos bad).2.2 { data:=#[58,45] }) []
 else ([],vG s (zH s pos bad).2.1 (zH s pos bad).2.2 { data:=#[58,45] },vP s (zH s pos bad).2.1 (zH s pos bad).2.2 { data:=#[58,45] })
def zb2 (s:B8)(pos:Nat)(bad:Int):Nat:=zW s (jN s pos bad).2.1 (xM s (jN s pos bad).2.1 (jN s pos bad).2.2 { data:=#[46] })
def jK (s:B8)(pos:Nat)(bad:Int):Int:=zU s (jN s pos bad).2.1 (xM s (jN s pos bad).2.1 (jN s pos bad).2.2 { data:=#[46] })
variable {wd s:B8} {bd:Int} {p:Nat}
theorem zbv (h:0<=bd):0<=vP s p bd wd:=by
 unfold vP;split
 ·exact jL h
 ·exact h
theorem zod (h:0<=bd):0<=xM s p bd wd:=by
 unfold xM;split
 ·exact h
 ·exact j5 _ _ _
variable {n:Nat}
theorem zpa (h:0<=bd):0<=zQ s p bd n:=by
 unfold zQ;split
 ·exact j5 _ _ _
 ·exact h
theorem zu5 (f:Nat):∀ {p:Nat} {bd:Int} {l:List xE},0<=bd->0<=(qG s f p bd l).2.2:=by
 induction f with
 | zero=>intro p bd l h;exact h
 | succ f ih=>
  intro p bd l h;have h1:0<=zU s p (zQ s p bd l.length):=jL (zpa h);rw[qG]
  split
  ·exact ih (zbv h1)
  ·exact jL (zod (zbv h1))
theorem zn0 (h:0<=bd):0<=(zH s p bd).2.2:=by
 have h0:0<=z6 s p bd:=by
  unfold z6;split
  ·exact j5 _ _ _
  ·exact h
 have h1:0<=zaj s p bd:=jL h0;unfold zH
 split
 ·exact zu5 5 (zbv h1)
 ·exact zbv h1
theorem zsh (h:0<=bd):0<=(yE s p bd).2:=by
 unfold yE;refine zn0 ?_;unfold vS;split
 ·exact jL h
 ·exact h
theorem zw7 (h3:n<=3)(h:dZ s (yE s p (zX s p bd n)).1 (yE s p (zX s p bd n)).2 wd=true):n+1<=3:=by
 rcases Nat.lt_or_ge n 3 with h1 | h1
 ·omega
 ·have e:n=3:=by omega
  subst e;have h2:=z31 h;have h4:0<=zX s p bd 3:=by simp[zX];exact j5 _ _ _
  have h5:=zsh (s:=s) (p:=p) h4;omega
theorem zyw (s:B8)(p:Nat)(bd:Int)(l:List zL)(h:l.length<=3):zcy s (4-l.length) p bd l =
  if dZ s (yE s p (zX s p bd l.length)).1 (yE s p (zX s p bd l.length)).2 { data:=#[44] } then
   zcy s (4-(l++[vC s p (zX s p bd l.length)]).length) (vG s (yE s p (zX s p bd l.length)).1 (yE s p (zX s p bd l.length)).2 { data:=#[44] }) (vP s (yE s p (zX s p bd l.length)).1 (yE s p (zX s p bd l.length)).2 { data:=#[44] }) (l++[vC s p (zX s p bd l.length)])
  else (l++[vC s p (zX s p bd l.length)],vG s (yE s p (zX s p bd l.length)).1 (yE s p (zX s p bd l.length)).2 { data:=#[44] },vP s (yE s p (zX s p bd l.length)).1 (yE s p (zX s p bd l.length)).2 { data:=#[44] }):=by
 have e1:4-l.length=(3-l.length)+1:=by omega
 have e2:4-(l++[vC s p (zX s p bd l.length)]).length=3-l.length:=by simp
 rw[e1,e2,zcy]
structure B4 (w:W8)(n:Nat)(A:zL)(hv bv:Value):Prop where
 c0:w.cell? ⟨n,0,none⟩=some (.string A.pred)
 c1:w.cell? ⟨n,1,none⟩=some hv
 c2:w.cell? ⟨n,2,none⟩=some (.bool A.no)
 c3:w.cell? ⟨n,3,none⟩=some (.int .i64 A.at_)
 c4:w.cell? ⟨n,4,none⟩=some (.int .i64 A.az)
 c5:w.cell? ⟨n,5,none⟩=some bv
 fz:∀ o,w.frozen? ⟨n,o,none⟩=false
variable {hv bv:Value} {A:zL} {w w':W8}
theorem B4.kept {B:List Nat}(h:B4 w n A hv bv)(k:zK B w w')(aH:n<w.heap.size)(hn:n∉B):B4 w' n A hv bv:=
 ⟨(k.cell aH hn).trans h.c0,(k.cell aH hn).trans h.c1,(k.cell aH hn).trans h.c2,(k.cell aH hn).trans h.c3,(k.cell aH hn).trans h.c4,(k.cell aH hn).trans h.c5,λ o=>(k.frozen aH hn).trans (h.fz o)⟩
theorem z0o {base base':Nat}{e e':TypeId}{size uI:Nat}{v v':Value}{n':Nat}{xs MK:V8}(h:w.ownsRow base e size v n xs)(h':w.ownsRow base' e' uI v' n' MK)(bF:e≠e'):v.ownBlock=none\/v.ownBlock≠v'.ownBlock:=by
 rcases h.2 with⟨rfl,_⟩ | ⟨g,cap,cur,rfl,_,hg,_⟩
 ·exact .inl rfl
 ·refine .inr ?_;rcases h'.2 with⟨rfl,_⟩ | ⟨g',dp,Qj,rfl,_,nJ,_⟩
  ·simp[Value.ownBlock]
  ·simp only[Value.ownBlock];intro e1;injection e1 with e1
   subst e1;rw[hg] at nJ;injection nJ with nJ
   injection nJ with _ nJ _
   exact bF nJ
def z8m:zL:=⟨{ data:=#[] },[],false,0,0⟩
structure Ba (w:W8)(b m:Nat)(s:B8)(H:zL)(hv:Value)(bs:List (zL × Value))(p:Nat)(bd:Int)(bv:Value)(wr:W8):Prop where
 bp:dR wr b s p bd
 hp:p<=s.size
 kept:zK [b] w wr
 rc:B4 wr m H hv bv
 zc:B4 wr w.heap.size z8m (.slice none 0 0) (.slice none 0 0)
 sz:m+1<=wr.heap.size
 nm:w.heap.size<m
 own:wr.ownsRow (m+1) 243 5 bv bs.length (za2 bs)
 hd:wr.ownsRow (w.heap.size+1) 317 3 hv H.ae.length (cellsOf H.ae)
 hm:∀ k,hv.ownBlock=some k->k<m
 bl:∀ x∈bs,wr.ownsRow (m+1) 317 3 x.2 x.1.ae.length (cellsOf x.1.ae)
 blt:b<w.heap.size
variable {wr w1:W8} {bs:List (zL × Value)} {H:zL} {b m:Nat}
theorem Ba.call {p':Nat}{Eg:Int}(h:Ba w b m s H hv bs p bd bv wr)(k:zK [b] wr w1)(hp:dR w1 b s p' Eg)(hl:p'<=s.size):Ba w b m s H hv bs p' Eg bv w1:=
 have aH:=h.blt;have sP:=h.nm;have bj:=h.sz
 ⟨hp,hl,h.kept.trans k,h.rc.kept k (by omega) (by simp;omega),h.zc.kept k (by omega) (by simp;omega),Nat.le_trans h.sz k.size,h.nm,yI h.own k (by simp;omega),yI h.hd k (by simp;omega),h.hm,λ x hx=>yI (h.bl x hx) k (by simp;omega),h.blt⟩
theorem Ba.append {w5:W8}(h:Ba w b m s H hv bs p bd bv w1){o1 o2:Obj}{tv nK:Value}
  (ht:w1.ownsRow (m+1) 317 3 tv A.ae.length (cellsOf A.ae))
  (ay:w5.ownsRow (m+1) 243 5 nK (bs.length+1) (za2 bs++A.cells tv)) (hg:((w1.alloc o1).alloc o2).grownBy w5 bv.ownBlock):
  Ba w b m s H hv (bs++[(A,tv)]) p bd nK (w5.setCell ⟨m,5,none⟩ nK)/\B4 w5 m H hv bv:=by
 have aH:=h.blt;have sP:=h.nm;have bj:=h.sz;have aB:∀ k,bv.ownBlock=some k->m+1<=k:=λ k e=>(h.own.lt k e).1
 have k5:zK bv.ownBlock.toList w1 w5:=(((zK.refl _ w1).alloc o1).alloc o2).grown hg (λ k e=>.inr (by simp[e]));have kU:∀ k,k<m+1->k∉bv.ownBlock.toList:=by
  intro k hk np
  cases hv:bv.ownBlock with
  | none=>simp[hv] at np
  | some x=>simp[hv] at np;have:=aB x hv;omega
 have r5:=h.rc.kept k5 (by omega) (kU _ (by omega));have eG:∀ {base:Nat} {v:Value} {n:Nat} {xs:V8},w1.ownsRow base 317 3 v n xs->w5.ownsRow base 317 3 v n xs:=λ {base v n xs} hx=>
  World.ownsRow.kept ((hx.alloc o1).alloc o2) hg (z0o hx h.own (by decide))
 have Cw:∀ {base:Nat} {e:TypeId} {size:Nat} {v:Value} {n:Nat} {xs:V8},w5.ownsRow base e size v n xs->(∀ k,v.ownBlock=some k->k≠m)->(w5.setCell ⟨m,5,none⟩ nK).ownsRow base e size v n xs:=by
  intro base e size v n xs hx hk;refine⟨hx.1,?_⟩;rcases hx.2 with hn | ⟨g,cap,cur,rfl,hb,bS,rest⟩
  ·exact .inl hn
  ·exact .inr ⟨g,cap,cur,rfl,hb,by rw[Below.heap_setCell _ _ _ _ (hk g rfl)];exact bS,rest⟩
 refine⟨⟨?_,h.hp,?_,?_,?_,?_,h.nm,?_,?_,h.hm,?_,h.blt⟩,r5⟩
 ·exact (h.bp.kept k5 (kU _ (by omega))).kept ((zK.refl [m] _).setCell (by simp) _) (by simp;omega)
 ·exact ((((h.kept.alloc o1).alloc o2).grown hg (λ k e=>.inl (by have:=aB k e;omega)))).setCell (.inr (by simp;omega)) _
 ·obtain⟨x0,x1,x2,x3,x4,x5,xf⟩:=r5;exact⟨by go_simp,by go_simp,by go_simp,by go_simp,by go_simp,by go_simp,by go_simp⟩
 ·exact (h.zc.kept k5 (by omega) (kU _ (by omega))).kept ((zK.refl [m] _).setCell (by simp) _) (by have:=k5.size;omega) (by simp;omega)
 ·have:=k5.size;simp;omega
 ·rw[zqg,List.length_append];exact Cw ay (λ k e=>by have:=(ay.lt k e).1;omega)
 ·exact Cw (eG h.hd) (λ k e=>by have:=h.hm k e;omega)
 ·intro x hx;rcases List.mem_append.1 hx with hx | hx
  ·exact Cw (eG (h.bl x hx)) (λ k e=>by have:=((h.bl x hx).lt k e).1;omega)
  ·simp at hx;subst hx;exact Cw (eG ht) (λ k e=>by have:=(ht.lt k e).1;omega)
structure nA (w:W8)(base:Nat)(R:zS)(hv:Value)(bs:List (zL × Value))(bv:Value):Prop where
 hd:w.ownsRow base 317 3 hv R.head.ae.length (cellsOf R.head.ae)
 bo:w.ownsRow base 243 5 bv bs.length (za2 bs)
 bl:∀ x∈bs,w.ownsRow base 317 3 x.2 x.1.ae.length (cellsOf x.1.ae)
 eq:R.body=bs.map (·.1)
theorem Ba.ends (h:Ba w b m s H hv bs p bd bv wr)(k:zK [w.heap.size] wr w'):
  zK [b] w w'/\dR w' b s p bd/\p<=s.size/\nA w' w.heap.size ⟨H,bs.map (·.1)⟩ hv bs bv:=by
 have aH:=h.blt;have sP:=h.nm;refine⟨⟨k.os.trans h.kept.os,k.tape.trans h.kept.tape,k.output.trans h.kept.output,Nat.le_trans h.kept.size k.size,λ i hi hn=>(k.block i (Nat.lt_of_lt_of_le hi h.kept.size) (by simp;omega)).trans (h.kept.block i hi hn)⟩,h.bp.kept k (by simp;omega),h.hp,⟨?_,?_,?_,rfl⟩⟩
 ·exact zG (yI h.hd k (by simp)) (by omega)
 ·exact zG (yI h.own k (by simp;omega)) (by omega)
 ·exact λ x hx=>zG (yI (h.bl x hx) k (by simp;omega)) (by omega)
theorem zyp {pos:Nat}{bad:Int}(aH:b<w.heap.size)
  (aX:zK [b] (w.alloc (Obj.cells #[.string { data:=#[] },.slice none 0 0,.bool false,.int IntKind.i64 0,.int IntKind.i64 0,.slice none 0 0] 246)) w1)
  (bI:dR w1 b s (zH s pos bad).2.1 (zH s pos bad).2.2) (sg:(zH s pos bad).2.1<=s.size)
  (aN:w1.ownsRow (w.heap.size+1) 317 3 hv (zH s pos bad).1.length (cellsOf (zH s pos bad).1)):
  Ba w b w1.heap.size s (zI s pos bad) hv [] (zH s pos bad).2.1 (zH s pos bad).2.2 (.slice none 0 0)
   (w1.alloc (Obj.cells #[.string (tok s pos).text,hv,.bool false,.int IntKind.i64 ↑(tok s pos).at_,.int IntKind.i64 0,.slice none 0 0] 246)):=by
 have aY:=aX.size;simp at aY;refine⟨bI.kept ((zK.refl [] _).alloc _) (by simp),sg,(((zK.refl [b] w).alloc _).trans aX).alloc _,?_,?_,by simp,by omega,World.ownsRow_nil _ _ _ _,aN.alloc _,λ k e=>(aN.lt k e).2,by simp,aH⟩
 ·refine⟨?_,?_,?_,?_,?_,?_,?_⟩
  all_goals first | (rw[World.cell?_alloc_at _ _ _ _ rfl];rfl) | (intro o;rw[World.frozen?_alloc_at _ _ _ _ rfl])
 ·refine B4.kept (B4.kept ⟨?_,?_,?_,?_,?_,?_,?_⟩ aX (by simp) (by simp;omega)) ((zK.refl [] _).alloc _) (by omega) (by simp)
  all_goals first | (rw[World.cell?_alloc_at _ _ _ _ rfl];rfl) | (intro o;rw[World.frozen?_alloc_at _ _ _ _ rfl])
theorem yev {u0 u1 u2 u3 u4 u5:Value}(h0:w1.cell? ⟨n,0,none⟩=some u0)(h1:w1.cell? ⟨n,1,none⟩=some u1)(h2:w1.cell? ⟨n,2,none⟩=some u2)(h3:w1.cell? ⟨n,3,none⟩=some u3)(h4:w1.cell? ⟨n,4,none⟩=some u4)(h5:w1.cell? ⟨n,5,none⟩=some u5)(v0 v1 v2 v3 v4 v5:Value):
  ((((((w1.setCell ⟨n,0,none⟩ v0).setCell ⟨n,1,none⟩ v1).setCell ⟨n,2,none⟩ v2).setCell ⟨n,3,none⟩ v3).setCell ⟨n,4,none⟩ v4).setCell ⟨n,5,none⟩ v5).cell? ⟨n,0,none⟩=some v0 /\
  ((((((w1.setCell ⟨n,0,none⟩ v0).setCell ⟨n,1,none⟩ v1).setCell ⟨n,2,none⟩ v2).setCell ⟨n,3,none⟩ v3).setCell ⟨n,4,none⟩ v4).setCell ⟨n,5,none⟩ v5).cell? ⟨n,1,none⟩=some v1 /\
  ((((((w1.setCell ⟨n,0,none⟩ v0).setCell ⟨n,1,none⟩ v1).setCell ⟨n,2,none⟩ v2).setCell ⟨n,3,none⟩ v3).setCell ⟨n,4,none⟩ v4).setCell ⟨n,5,none⟩ v5).cell? ⟨n,2,none⟩=some v2 /\
  ((((((w1.setCell ⟨n,0,none⟩ v0).setCell ⟨n,1,none⟩ v1).setCell ⟨n,2,none⟩ v2).setCell ⟨n,3,none⟩ v3).setCell ⟨n,4,none⟩ v4).setCell ⟨n,5,none⟩ v5).cell? ⟨n,3,none⟩=some v3 /\
  ((((((w1.setCell ⟨n,0,none⟩ v0).setCell ⟨n,1,none⟩ v1).setCell ⟨n,2,none⟩ v2).setCell ⟨n,3,none⟩ v3).setCell ⟨n,4,none⟩ v4).setCell ⟨n,5,none⟩ v5).cell? ⟨n,4,none⟩=some v4 /\
  ((((((w1.setCell ⟨n,0,none⟩ v0).setCell ⟨n,1,none⟩ v1).setCell ⟨n,2,none⟩ v2).setCell ⟨n,3,none⟩ v3).setCell ⟨n,4,none⟩ v4).setCell ⟨n,5,none⟩ v5).cell? ⟨n,5,none⟩=some v5:=by
 refine⟨?_,?_,?_,?_,?_,?_⟩ <;> go_simp
theorem yeh (w1:W8)(n:Nat)(v0 v1 v2 v3 v4 v5:Value):zK [n] w1 ((((((w1.setCell ⟨n,0,none⟩ v0).setCell ⟨n,1,none⟩ v1).setCell ⟨n,2,none⟩ v2).setCell ⟨n,3,none⟩ v3).setCell ⟨n,4,none⟩ v4).setCell ⟨n,5,none⟩ v5):=
 ((((((zK.refl [n] w1).setCell (by simp) _).setCell (by simp) _).setCell (by simp) _).setCell (by simp) _).setCell (by simp) _).setCell (by simp) _
end
end Go.Proofs.YtldkpahaocjdpaaGreat
