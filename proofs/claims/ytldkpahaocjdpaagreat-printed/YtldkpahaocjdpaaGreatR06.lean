/-
  The reference's parser: take, where a token is there and no fault was met so far: the next token is cut.
-/
import Derived.Test.YtldkpahaocjdpaaGreatR05
import Derived.Deep.LoopGhost
import Derived.Deep.AppendLies
import Derived.Deep.RegionLaw
import Derived.Deep.DeepCutAuto
import Derived.Test.YtldkpahaocjdpaaGreatR03
set_option maxHeartbeats 16000000
set_option maxRecDepth 1000000
namespace Go.Proofs.YtldkpahaocjdpaaGreat
section
open Go.RowKit
def zb1 (s:B8)(pos:Nat)(bad:Int)(wd:B8):Nat:=if isS s pos bad wd then gu s pos bad else pos
def zb0 (s:B8)(pos:Nat)(bad:Int)(wd:B8):Int:=if isS s pos bad wd then jV s pos bad else bad
def jH (s:B8)(pos:Nat)(bad:Int)(wd:B8):Int:=if isS s pos bad wd then bad else zkd s pos bad
end
section
open Go.RowKit
structure zen where
 text:B8
 isVar:Bool
 at_:Nat
structure yX where
 pred:B8
 aS:List zen
 no:Bool
 at_:Nat
 lS:Nat
abbrev chr (c:UInt8):B8:={ data:=#[c] }
def zhe (s:B8)(pos:Nat)(bad:Int)(n:Nat):Int:=
 if ((tok s pos).kind != 110&&(tok s pos).kind != 118)||n==4 then zkd s pos bad else bad
def zii (s:B8)(pos:Nat):zen:=⟨(tok s pos).text,(tok s pos).kind==118,(tok s pos).at_⟩
def zb8 (s:B8):Nat->Nat->Int->List zen->List zen × Nat × Int
 | 0,pos,bad,l=>(l,pos,bad)
 | f+1,pos,bad,l=>
  let bad1:=zhe s pos bad l.length
  let pos2:=gu s pos bad1
  let bad2:=jV s pos bad1
  let pos3:=zb1 s pos2 bad2 (chr 44)
  let bad3:=zb0 s pos2 bad2 (chr 44)
  if isS s pos2 bad2 (chr 44) then zb8 s f pos3 bad3 (l++[zii s pos])
  else (l++[zii s pos],gu s pos3 (jH s pos3 bad3 (chr 41)),jV s pos3 (jH s pos3 bad3 (chr 41)))
def zce (s:B8)(pos:Nat)(bad:Int):Int:=if (tok s pos).kind != 110 then zkd s pos bad else bad
def zcf (s:B8)(pos:Nat)(bad:Int):Nat:=gu s pos (zce s pos bad)
def zad (s:B8)(pos:Nat)(bad:Int):Int:=jV s pos (zce s pos bad)
def yD (s:B8)(pos:Nat)(bad:Int):List zen × Nat × Int:=
 if isS s (zcf s pos bad) (zad s pos bad) (chr 40) then
  zb8 s 5 (zb1 s (zcf s pos bad) (zad s pos bad) (chr 40)) (zb0 s (zcf s pos bad) (zad s pos bad) (chr 40)) []
 else ([],zb1 s (zcf s pos bad) (zad s pos bad) (chr 40),zb0 s (zcf s pos bad) (zad s pos bad) (chr 40))
variable {row:Option Nat} {w w':W8} {B:List Nat}
theorem yA.grown {a:W8}(h:yA B a w)(hg:w.grownBy w' row)(hr:∀ k,row=some k->a.heap.size<=k\/k∈B):yA B a w':=
 ⟨hg.os.trans h.os,hg.tape.trans h.tape,hg.output.trans h.output,Nat.le_trans h.size hg.size,λ k hk hn=>(hg.block k (Nat.lt_of_lt_of_le hk h.size) (λ e=>by rcases hr k e.symm with h1 | h1;omega;exact hn h1)).trans (h.block k hk hn)⟩
theorem yA.eK (hg:w.grownBy w' row):yA row.toList w w':=
 (yA.refl _ _).grown hg (λ k e=>.inr (by simp[e]))
variable {xs:V8} {n size base:Nat} {v:Value} {e:TypeId}
theorem za5 (h:w.ownsRow base e size v n xs)(k:yA B w w')(hB:∀ x∈B,x<base):w'.ownsRow base e size v n xs:=by
 refine⟨h.1,?_⟩;rcases h.2 with hn | ⟨g,cap,cur,rfl,hb,dn,rest⟩
 ·exact .inl hn
 ·refine .inr ⟨g,cap,cur,rfl,hb,?_,rest⟩;rw[k.block g (Array.getElem?_eq_some_iff.1 dn).1 (λ hm=>by have:=hB g hm;omega)];exact dn
theorem zE (h:w.ownsRow base e size v n xs):∃ a cap,v=.slice a n cap:=by
 rcases h.2 with⟨rfl,rfl⟩ | ⟨g,cap,cur,rfl,_⟩
 ·exact⟨none,0,rfl⟩
 ·exact⟨_,_,rfl⟩
theorem zI {base':Nat}(h:w.ownsRow base e size v n xs)(hb:base'<=base):w.ownsRow base' e size v n xs:=by
 refine⟨h.1,?_⟩;rcases h.2 with hn | ⟨g,cap,cur,rfl,Ap,rest⟩
 ·exact .inl hn
 ·exact .inr ⟨g,cap,cur,rfl,by omega,rest⟩
end
section
open Go.RowKit
def zsr (s:B8)(pos:Nat)(bad:Int):Bool:=decide (bad<0)&&(tok s pos).kind==119
def zj2 (s:B8)(pos:Nat)(bad:Int):Nat:=if zsr s pos bad then gu s pos bad else pos
def zoz (s:B8)(pos:Nat)(bad:Int):Int:=if zsr s pos bad then jV s pos bad else bad
def ze9 (s:B8)(pos:Nat)(bad:Int):yX:=
 ⟨(tok s (zj2 s pos bad)).text,(yD s (zj2 s pos bad) (zoz s pos bad)).1,zsr s pos bad,(tok s (zj2 s pos bad)).at_,(tok s pos).at_⟩
def xO (s:B8)(pos:Nat)(bad:Int):Nat × Int:=(yD s (zj2 s pos bad) (zoz s pos bad)).2
theorem zq3 {w:W8}{n j:Nat}{v:Value}(h:w.cell? ⟨n,j,none⟩=some v)(o:Obj):(w.alloc o).cell? ⟨n,j,none⟩=some v:=by
 rw[World.cell?_alloc_past _ _ _ (World.block_lt_of_cell? w ⟨n,j,none⟩ h)];exact h
end
section
open Go.RowKit
def xB (s:B8)(p:Nat)(bd:Int)(n:Nat):Int:=if n==3 then zkd s p bd else bd
def ziz (s:B8):Nat->Nat->Int->List yX->List yX × Nat × Int
 | 0,p,bd,l=>(l,p,bd)
 | f+1,p,bd,l=>
  if isS s (xO s p (xB s p bd l.length)).1 (xO s p (xB s p bd l.length)).2 { data:=#[44] } then
   ziz s f (zb1 s (xO s p (xB s p bd l.length)).1 (xO s p (xB s p bd l.length)).2 { data:=#[44] }) (zb0 s (xO s p (xB s p bd l.length)).1 (xO s p (xB s p bd l.length)).2 { data:=#[44] }) (l++[ze9 s p (xB s p bd l.length)])
  else (l++[ze9 s p (xB s p bd l.length)],zb1 s (xO s p (xB s p bd l.length)).1 (xO s p (xB s p bd l.length)).2 { data:=#[44] },zb0 s (xO s p (xB s p bd l.length)).1 (xO s p (xB s p bd l.length)).2 { data:=#[44] })
structure yT where
 head:yX
 body:List yX
def Lh (s:B8)(pos:Nat)(bad:Int):yX:=⟨(tok s pos).text,(yD s pos bad).1,false,(tok s pos).at_,0⟩
def zbi (s:B8)(pos:Nat)(bad:Int):List yX × Nat × Int:=
 if isS s (yD s pos bad).2.1 (yD s pos bad).2.2 { data:=#[58,45] } then
  ziz s 4 (zb1 s (yD s pos bad).2.1 (yD s pos bad).2.2 { data:=#[58,45] }) (zb0 s (yD s pos bad).2.1 (yD s pos bad).2.2 { data:=#[58,45] }) []
 else ([],zb1 s (yD s pos bad).2.1 (yD s pos bad).2.2 { data:=#[58,45] },zb0 s (yD s pos bad).2.1 (yD s pos bad).2.2 { data:=#[58,45] })
def zml (s:B8)(pos:Nat)(bad:Int):Nat:=gu s (zbi s pos bad).2.1 (jH s (zbi s pos bad).2.1 (zbi s pos bad).2.2 { data:=#[46] })
def zct (s:B8)(pos:Nat)(bad:Int):Int:=jV s (zbi s pos bad).2.1 (jH s (zbi s pos bad).2.1 (zbi s pos bad).2.2 { data:=#[46] })
theorem yem {w:W8}{base base':Nat}{e e':TypeId}{size MD:Nat}{v v':Value}{n n':Nat}{xs KJ:V8}(h:w.ownsRow base e size v n xs)(h':w.ownsRow base' e' MD v' n' KJ)(bG:e≠e'):v.ownBlock=none\/v.ownBlock≠v'.ownBlock:=by
 rcases h.2 with⟨rfl,_⟩ | ⟨g,cap,cur,rfl,_,hg,_⟩
 ·exact .inl rfl
 ·refine .inr ?_;rcases h'.2 with⟨rfl,_⟩ | ⟨g',oI,BW,rfl,_,jo,_⟩
  ·simp[Value.ownBlock]
  ·simp only[Value.ownBlock];intro e1;injection e1 with e1
   subst e1;rw[hg] at jo;injection jo with jo
   injection jo with _ jo _
   exact bG jo
end
section
open Go.RowKit
def xW (nm:B8):P9->Nat->Int
 | [],_=>-1
 | x::r,k=>if x.1.toList==nm.toList then k else xW nm r (k+1)
def xL (l:P9)(nm:B8):Int:=xW nm l 0
theorem z8w {w:W8}{base:Nat}{e:TypeId}{v:Value}{n:Nat}{xs:V8}(h:w.ownsRow base e 1 v n xs)(hn:0<n):∃ g cap,v=.slice (some ⟨g,0,none⟩) n cap/\base<=g/\n<=cap/\cap<=maxLen/\∀ k,k<n->w.cell? ⟨g,k,none⟩=xs[k]?:=by
 rcases h.2 with⟨_,h0⟩ | ⟨g,cap,cur,rfl,hb,hg,dG,dx,eZ,ht⟩
 ·omega
 ·refine⟨g,cap,rfl,hb,dG,dx,λ k hk=>?_⟩;exact h.cellAt k (by omega)
theorem zbt:(Tryz.prog.info? 9).map (λ i=>(i.zero,i.size,i.bytes))=some (some (.string { data:=#[] }),1,16):=by kernel_rfl
theorem z2x:(Tryz.prog.info? 3).map (λ i=>(i.zero,i.size,i.bytes))=some (some (.int .i64 0),1,8):=by kernel_rfl
def zan (ps:P9)(nm:B8)(n:Nat):P9:=if xL ps nm<0 then ps++[(nm,n)] else ps
def zd1 (ps:P9)(nm:B8)(n:Nat):Bool:=if xL ps nm<0 then true else ((ps.getD (xL ps nm).toNat (nm,0)).2:Int)==n
theorem z7s (nm:B8):∀ (l:P9) (k:Nat),0<=xW nm l k->(k:Int)<=xW nm l k/\xW nm l k<k+l.length
 | [],k,h=>by simp[xW] at h
 | x::r,k,h=>by
  unfold xW at h ⊢
  split
  ·simp;omega
  ·rename_i bG;rw[if_neg bG] at h;have:=z7s nm r (k+1) h;simp;omega
theorem zdh {ps:P9}{nm:B8}(h:0<=xL ps nm):(xL ps nm).toNat<ps.length:=by
 have:=z7s nm ps 0 h;unfold xL at *;omega
end
section
open Go.RowKit
def zaw:List yX->P9->Int × P9
 | [],ps=>(-1,ps)
 | A::r,ps=>if zd1 ps A.pred A.aS.length then zaw r (zan ps A.pred A.aS.length) else (A.at_,zan ps A.pred A.aS.length)
def yT.atoms (R:yT):List yX:=R.head::R.body
theorem vK {w:W8}{base:Nat}{e:TypeId}{size:Nat}{v:Value}{n:Nat}{xs:V8}(h:w.ownsRow base e size v n xs):n<=maxLen:=by
 rcases h.2 with⟨_,h0⟩ | ⟨g,cap,cur,_,_,_,h1,h2,_⟩ <;> omega
end
section
open Go.RowKit
def Nj (nm:B8)(t:zen):Bool:=t.isVar&&t.text.toList==nm.toList
def z5c (nm:B8)(A:yX):Bool:=!A.no&&A.aS.any (Nj nm)
def zre (nm:B8)(l:List yX):Bool:=l.any (z5c nm)
theorem zw0 {α:Type}{f:α->Bool}{l:List α}{k:Nat}(h:k<l.length):(l.drop k).any f=(f l[k]||(l.drop (k+1)).any f):=by
 rw[List.drop_eq_getElem_cons h,List.any_cons]
end
section
open Go.RowKit
def za2 (body:List yX):List zen->Int
 | []=>-1
 | t::r=>if t.isVar&&!zre t.text body then t.at_ else za2 body r
end
section
open Go.RowKit
def zb3 (body:List yX):List yX->Int
 | []=>-1
 | A::r=>if 0<=(if A.no then za2 body A.aS else -1) then za2 body A.aS else zb3 body r
def zfc (R:yT):Int:=if 0<=za2 R.body R.head.aS then za2 R.body R.head.aS else zb3 R.body R.body
def zbh:List yT->Int
 | []=>-1
 | R::r=>if 0<=zfc R then zfc R else zbh r
end
section
open Go.RowKit
structure dN (w:W8)(b:Nat)(s:B8)(pos num:Nat)(mv:Value):Prop where
 lt:b<w.heap.size
 c0:w.cell? ⟨b,0,none⟩=some (.string s)
 c1:w.cell? ⟨b,1,none⟩=some (.int .i64 (zD s pos).1)
 c2:w.cell? ⟨b,2,none⟩=some (.int .i64 (zD s pos).2.1)
 c3:w.cell? ⟨b,3,none⟩=some (.int .i64 (zD s pos).2.2)
 c4:w.cell? ⟨b,4,none⟩=some (.int .i64 num)
 c5:w.cell? ⟨b,5,none⟩=some mv
 fz:∀ o,w.frozen? ⟨b,o,none⟩=false
variable {mv:Value} {pos num b:Nat} {s:B8} {w:W8}
theorem dN.kept {B:List Nat}{w':W8}(h:dN w b s pos num mv)(k:yA B w w')(hn:b∉B):dN w' b s pos num mv:=
 ⟨Nat.lt_of_lt_of_le h.lt k.size,(k.cell h.lt hn).trans h.c0,(k.cell h.lt hn).trans h.c1,(k.cell h.lt hn).trans h.c2,(k.cell h.lt hn).trans h.c3,(k.cell h.lt hn).trans h.c4,(k.cell h.lt hn).trans h.c5,λ o=>(k.frozen h.lt hn).trans (h.fz o)⟩
theorem xD (s:B8)(i:Nat)(hi:i<=s.size):(zD s i).2.1<=(zD s i).2.2/\(zD s i).2.2<=s.size:=by
 have h1:=zed yG s i hi;have h2:=zxz (s.extract (skip yG s i) s.size);rw[zcg] at h2;unfold zD;exact⟨by simp,by simp only;omega⟩
def z6 (s:B8)(pos:Nat)(k:Int):Nat:=if (zD s pos).1==k then (zD s pos).2.2 else pos
def yP (s:B8)(pos:Nat):B8:=s.extract (zD s pos).2.1 (zD s pos).2.2
theorem zmo (s:B8)(i:Nat)(hi:i<=s.size)(hs:s.size<=maxLen)(w:W8):
  Calls Tryz.prog 73 #[.string s,.int .i64 i] w λ e w'=>e=.returned (.agg #[.int .i64 (zD s i).1,.int .i64 (zD s i).2.1,.int .i64 (zD s i).2.2])/\Below w.heap.size w w':=z80 s i hi hs w
variable {w1:W8}
theorem z8u {pos':Nat}(h:dN w1 b s pos num mv):
  dN (((w1.setCell ⟨b,1,none⟩ (.int .i64 (zD s pos').1)).setCell ⟨b,2,none⟩ (.int .i64 (zD s pos').2.1)).setCell ⟨b,3,none⟩ (.int .i64 (zD s pos').2.2)) b s pos' num mv:=by
 obtain⟨bP,c0,c1,c2,c3,c4,c5,fz⟩:=h;refine⟨by simpa using bP,?_,?_,?_,?_,?_,?_,?_⟩
 all_goals go_simp
theorem Below.gR (h:Below w.drew.heap.size w.drew w1):Below w.heap.size w w1:=⟨h.os,h.tape,h.output,h.size,h.block⟩
theorem yV (s:B8)(pos num:Nat)(mv:Value)(k:Int)(b:Nat)(w:W8)(h:dN w b s pos num mv)(bn:pos<=s.size)(hs:s.size<=maxLen):
  Calls Tryz.prog 116 #[.pointer (some ⟨b,0,none⟩),.int .i64 k] w λ e w'=>e=.returned (.bool ((zD s pos).1==k))/\yA [b] w w'/\dN w' b s (z6 s pos k) num mv:=by
 have h':=h;obtain⟨bP,c0,c1,c2,c3,c4,c5,fz⟩:=h
 cases hk:(zD s pos).1==k with
 | false=>
  have cN:((zD s pos).1 != k)=true:=by simp[bne,hk]
  have e1:z6 s pos k=pos:=by unfold z6;rw[if_neg (by rw[hk];decide)]
  rw[e1];clear hk e1;go_enter Tryz.func116,Tryz.ntmps116;go_wp2_with fail;go_ret;exact⟨rfl,yA.refl _ _,h'⟩
 | true=>
  have cN:((zD s pos).1 != k)=false:=by simp[bne,hk]
  have e1:z6 s pos k=(zD s pos).2.2:=by unfold z6;rw[if_pos hk]
  rw[e1];have hle:=(xD s pos bn).2;clear hk e1;have HP:=zC (λ (w1:W8) (hb:Below w.heap.size w w1)=>h'.kept ((yA.refl [] w).aF hb) (by simp));go_enter Tryz.func116,Tryz.ntmps116;go_wp2_with fail
  go_region_with (go_at_call 73;refine (zmo s (zD s pos).2.2 hle hs _).mono ?_;rintro e w1 ⟨rfl,aT⟩;obtain⟨JI,x0,x1,x2,x3,x4,x5,fzx⟩:=zA HP w1 (Below.gR aT))
  all_goals
   go_wp2_with fail;go_ret;exact⟨rfl,((((yA.refl [b] w).aF (Below.gR aT)).setCell (by simp) _).setCell (by simp) _).setCell (by simp) _,z8u (pos':=(zD s pos).2.2) (zA HP w1 (Below.gR aT))⟩
theorem z2c (s:B8)(hs:s.size<=281474976710656)(w:W8):
  Calls Tryz.prog 198 #[.string s] w λ e w'=>e=.returned (.string s)/\Below w.heap.size w w':=by
 go_enter Tryz.func198,Tryz.ntmps198;go_wp2_with fail;refine (Tryz.stringslite_Clone s _ hs).mono ?_;rintro e w1 ⟨rfl,aT⟩;go_wp2_with fail;go_ret;exact⟨rfl,aT⟩
end
section
open Go.RowKit
variable {v:Value} {j:Nat}
theorem zk7 (e:zY)(h:(zT e)[j]?=some v):(j=0/\v=.int .i64 (e.length:Nat))\/∃ i,i<12/\((j=1+i*2/\v=.string (eAt e i).1)\/(j=1+i*2+1/\v=.string (eAt e i).2)):=by
 have hj:j<25:=(List.getElem?_eq_some_iff.1 h).1;rcases Nat.eq_zero_or_pos j with rfl | hp
 ·left;refine⟨rfl,?_⟩;exact (Option.some.inj h).symm
 ·right
  refine⟨(j-1)/2,by omega,?_⟩;rcases Nat.mod_two_eq_zero_or_one (j-1) with hm | hm
  ·left
   have e1:j=1+(j-1)/2*2:=(by omega);refine⟨e1,?_⟩;have:=zae e (i:=(j-1)/2) (by omega);rw[<-e1] at this;exact Option.some.inj (h.symm.trans this)
  ·right
   have e1:j=1+(j-1)/2*2+1:=(by omega);refine⟨e1,?_⟩;have:=qI e (i:=(j-1)/2) (by omega);rw[<-e1] at this;exact Option.some.inj (h.symm.trans this)
theorem zxd (e:zY)(x:B8 × B8)(i:Nat):eAt (e++[x]) i=if i=e.length then x else eAt e i:=by
 unfold eAt;rw[List.getElem?_append]
 split
 ·rename_i h;rw[if_neg (by omega)]
 ·rename_i h
  split
  ·rename_i h2;subst h2;simp
  ·rename_i h2;rw[List.getElem?_eq_none (by simp;omega),List.getElem?_eq_none (by omega)]
structure jE (w:W8)(b:Nat)(e:zY):Prop where
 cells:z9w w b e
 arr:∃ cs,w.heap[b]?=some (.cells cs 135 (0,0))/\cs.size=25
variable {e:zY} {b:Nat} {w:W8}
theorem jE.fz (h:jE w b e)(j:Nat):w.frozen? ⟨b,j,none⟩=false:=by
 obtain⟨cs,h1,_⟩:=h.arr;simp[World.frozen?,h1]
theorem jE.lt (h:jE w b e):b<w.heap.size:=by
 obtain⟨cs,h1,_⟩:=h.arr;exact (Array.getElem?_eq_some_iff.1 h1).1
theorem jE.whole (h:jE w b e):w.heap[b]?=some (.cells (zT e).toArray 135 (0,0)):=by
 obtain⟨cs,h1,h2⟩:=h.arr;have:cs=(zT e).toArray:=by
  apply Array.ext
  ·rw[h2];rfl
  ·intro j hj CG;have:=h.cells j _ (by rw[<-List.getElem?_toArray];exact Array.getElem?_eq_getElem CG);rw[cell_of_row w b j cs _ _ h1,Array.getElem?_eq_getElem hj] at this;exact Option.some.inj this
 rw[h1,this]
theorem jE.of (h:w.heap[b]?=some (.cells (zT e).toArray 135 (0,0))):jE w b e:=
 ⟨λ j v hj=>by rw[cell_of_row w b j _ _ _ h,List.getElem?_toArray];exact hj,_,h,rfl⟩
theorem jE.block {w':W8}(h:jE w b e)(hb:w'.heap[b]?=w.heap[b]?):jE w' b e:=jE.of (hb.trans h.whole)
theorem jE.drew (h:jE w b e):jE w.drew b e:=⟨h.cells,h.arr⟩
theorem zux {T:TypeId}{n:Nat}(h:∃ cs,w.heap[b]?=some (.cells cs T (0,0))/\cs.size=n):∃ cs,(w.setCell ⟨b,j,none⟩ v).heap[b]?=some (.cells cs T (0,0))/\cs.size=n:=by
 obtain⟨cs,h1,h2⟩:=h;rw[setCell_eq_setRow w b j cs T (0,0) v h1];exact⟨_,setRow_heap w b cs _ T _ h1,by simpa using h2⟩
def gy (w:W8)(b k:Nat)(v n:B8):W8:=((w.setCell ⟨b,1+k*2,none⟩ (.string v)).setCell ⟨b,1+k*2+1,none⟩ (.string n)).setCell ⟨b,0,none⟩ (.int .i64 ((k:Int)+1))
theorem jE.set (h:jE w b e)(hl:e.length<12)(v n:B8):jE (gy w b e.length v n) b (e++[(v,n)]):=by
 refine⟨λ j x hj=>?_,zux (zux (zux h.arr))⟩;have c0:=h.cells 0 _ rfl;have cv:=h.cells _ _ (zae e hl);have cn:=h.cells _ _ (qI e hl);unfold gy;rcases zk7 _ hj with⟨rfl,rfl⟩ | ⟨i,hi,⟨rfl,rfl⟩ | ⟨rfl,rfl⟩⟩
 ·rw[World.cell?_setCell_same' _ _ _ (by rw[World.cell?_setCell_other _ _ _ _ (by intro e;injection e;omega),World.cell?_setCell_other _ _ _ _ (by intro e;injection e;omega),c0];rfl)];simp
 ·rw[World.cell?_setCell_other _ _ _ _ (by intro e;injection e;omega),World.cell?_setCell_other _ _ _ _ (by intro e;injection e;omega),zxd]
  by_cases hk:i=e.length
  ·subst hk;rw[World.cell?_setCell_same' _ _ _ (by rw[cv];rfl),if_pos rfl]
  ·rw[World.cell?_setCell_other _ _ _ _ (by intro e;injection e;omega),if_neg hk];exact h.cells _ _ (zae e hi)
 ·rw[World.cell?_setCell_other _ _ _ _ (by intro e;injection e;omega),zxd]
  by_cases hk:i=e.length
  ·subst hk;rw[World.cell?_setCell_same' _ _ _ (by rw[World.cell?_setCell_other _ _ _ _ (by intro e;injection e;omega),cn];rfl),if_pos rfl]
  ·rw[World.cell?_setCell_other _ _ _ _ (by intro e;injection e;omega),World.cell?_setCell_other _ _ _ _ (by intro e;injection e;omega),if_neg hk];exact h.cells _ _ (qI e hi)
theorem yA.gy {B:List Nat}{a:W8}(h:yA B a w)(hp:b∈B\/a.heap.size<=b)(k:Nat)(v n:B8):yA B a (Go.Proofs.YtldkpahaocjdpaaGreat.gy w b k v n):=
 ((h.setCell (p:=⟨b,1+k*2,none⟩) hp _).setCell (p:=⟨b,1+k*2+1,none⟩) hp _).setCell (p:=⟨b,0,none⟩) hp _
def pmB (e:zY)(v n:B8):Option zY:=
 match pAt e v with
 | some x=>if x.toList==n.toList then some e else none
 | none=>some (e++[(v,n)])
def zcc (w:W8)(b:Nat)(r:Option zY)(en:Ending)(w':W8):Prop:=yA [b] w w'/\en=.returned (.bool r.isSome)/\∀ e',r=some e'->jE w' b e'
theorem z4e (w:W8)(b:Nat)(e:zY)(v n:B8)(h:jE w b e)(hl:e.length<=12)(hr:pAt e v=none->e.length<12):
  Calls Tryz.prog 147 #[.pointer (some ⟨b,0,none⟩),.string v,.string n] w (zcc w b (pmB e v n)):=by
 have HN:=zC (zti w b e v h.cells hl);have HP:=zC (show zcc w b (pmB e v n)=zcc w b (match pAt e v with | some x=>if x.toList==n.toList then some e else none | none=>some (e++[(v,n)])) from rfl);have c0:=h.cells 0 _ rfl;have f0:=h.fz 0;have HB:=zC h;have hb:=h.lt;clear h
 cases hp:pAt e v with
 | some x=>
  have HX:=zC (show dR e v=x by unfold dR;rw[hp];rfl);rw[hp] at HP HN;clear hr;have xa:=zC hp;clear hp;go_enter Tryz.func147,Tryz.ntmps147;go_wp2_with (go_at_call 201;refine (zA HN).mono ?_;rintro en w1 ⟨rfl,bq⟩;subst bq);rw[zA HX];go_wp2_with fail;go_ret;rw[zA HP];refine⟨yA.refl _ _,?_,λ e' iE=>?_⟩
  ·split <;> rename_i hq <;> simp[hq]
  ·split at iE
   ·cases iE;exact zA HB
   ·cases iE
 | none=>
  have bP:=hr hp;have HX:=zC (show dR e v={ data:=#[] } by unfold dR;rw[hp];rfl);rw[hp] at HP HN;clear hr;have xa:=zC hp;clear hp;have cv:=(zA HB).cells _ _ (zae e bP);have cn:=(zA HB).cells _ _ (qI e bP);have fv:=(zA HB).fz (1+e.length*2);have fn:=(zA HB).fz (1+e.length*2+1);have lG:(e.length:Int)<12:=by omega
  go_enter Tryz.func147,Tryz.ntmps147;go_wp2_with (go_at_call 201;refine (zA HN).mono ?_;rintro en w1 ⟨rfl,bq⟩;subst bq)
  go_region
  go_wp2_with fail;go_ret;rw[zA HP];exact⟨((yA.refl [b] w1).gy (b:=b) (by simp) e.length v n).drew,rfl,λ e' iE=>by cases iE;exact ((zA HB).set bP v n).drew⟩
end
section
open Go.RowKit
theorem zk2 (W:W8)(v:Value):(Instr.typeAssert (.iface 130 v) 191 130 true).run Tryz.prog W=.ok (.tuple #[v,.bool true]) W:=by kernel_rfl
theorem zix (W:W8)(v:Value):(Instr.typeAssert (.iface 193 v) 191 193 true).run Tryz.prog W=.ok (.tuple #[v,.bool true]) W:=by kernel_rfl
theorem zk1 (W:W8)(v:Value):(Instr.typeAssert (.iface 130 v) 191 193 true).run Tryz.prog W=.ok (.tuple #[.string { data:=#[] },.bool false]) W:=by kernel_rfl
def zaz (t:zca):Value:=.iface (if t.1 then 130 else 193) (.string t.2)
def pmT (e:zY)(t:zca)(n:B8):Option zY:=if t.1 then pmB e t.2 n else if t.2.toList==n.toList then some e else none
theorem zz9 (w:W8)(b:Nat)(e:zY)(t:zca)(n:B8)(h:jE w b e)(hl:e.length<=12)(hr:t.1=true->pAt e t.2=none->e.length<12):
  Calls Tryz.prog 101 #[.pointer (some ⟨b,0,none⟩),zaz t,.string n] w (zcc w b (pmT e t n)):=by
 obtain⟨c,v⟩:=t;have HB:=zC h;have HI:=zC h;clear h;have h1:=zk2;have h2:=zix;have h3:=zk1
 cases c with
 | true=>
  have HN:=zC (z4e w b e v n (zA HI) hl (hr rfl));clear hr;have HP:=zC (show zcc w b (pmT e (true,v) n)=zcc w b (pmB e v n) from rfl);rw[show zaz (true,v)=.iface 130 (.string v) from rfl];go_enter Tryz.func101,Tryz.ntmps101;go_wp2_with (go_at_call 147;refine (zA HN).mono ?_;rintro en w1 ⟨hk,rfl,ak⟩;have HK:=zC hk;have HI:=zC ak;clear hk ak);go_ret;rw[zA HP];exact⟨zA HK,rfl,zA HI⟩
 | false=>
  have HP:=zC (show zcc w b (pmT e (false,v) n)=zcc w b (if v.toList==n.toList then some e else none) from rfl);rw[show zaz (false,v)=.iface 193 (.string v) from rfl];go_enter Tryz.func101,Tryz.ntmps101;go_wp2_with fail;go_ret;rw[zA HP];refine⟨yA.refl _ _,?_,λ e' iE=>?_⟩
  ·split <;> rename_i hq <;> simp[hq]
  ·split at iE
   ·cases iE;exact zA HB
   ·cases iE
end
end Go.Proofs.YtldkpahaocjdpaaGreat
