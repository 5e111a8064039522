/-
  The reference's parser: take, where a token is there and no fault was met so far: the next token is cut.
-/
import Derived.Test.YtldkpahaocjdpaaGreatD05
import Derived.Deep.LoopGhost
import Derived.Deep.AppendLies
import Derived.Deep.RegionLaw
import Derived.Deep.DeepCutAuto
import Derived.Test.YtldkpahaocjdpaaGreatD03
set_option maxHeartbeats 16000000
set_option maxRecDepth 1000000
namespace Go.Proofs.YtldkpahaocjdpaaGreat
section
open Go.RowKit
def zbz (s:B8)(pos:Nat)(bad:Int)(wd:B8):Nat:=if isS s pos bad wd then fm s pos bad else pos
def zby (s:B8)(pos:Nat)(bad:Int)(wd:B8):Int:=if isS s pos bad wd then jW s pos bad else bad
def jK (s:B8)(pos:Nat)(bad:Int)(wd:B8):Int:=if isS s pos bad wd then bad else zjy s pos bad
end
section
open Go.RowKit
structure zef where
 text:B8
 isVar:Bool
 at_:Nat
structure yR where
 pred:B8
 aS:List zef
 no:Bool
 at_:Nat
 rz:Nat
abbrev chr (c:UInt8):B8:={ data:=#[c] }
def zg6 (s:B8)(pos:Nat)(bad:Int)(n:Nat):Int:=
 if ((tok s pos).kind != 110&&(tok s pos).kind != 118)||n==4 then zjy s pos bad else bad
def zh4 (s:B8)(pos:Nat):zef:=⟨(tok s pos).text,(tok s pos).kind==118,(tok s pos).at_⟩
def zb7 (s:B8):Nat->Nat->Int->List zef->List zef × Nat × Int
 | 0,pos,bad,l=>(l,pos,bad)
 | f+1,pos,bad,l=>
  let bad1:=zg6 s pos bad l.length
  let pos2:=fm s pos bad1
  let bad2:=jW s pos bad1
  let pos3:=zbz s pos2 bad2 (chr 44)
  let bad3:=zby s pos2 bad2 (chr 44)
  if isS s pos2 bad2 (chr 44) then zb7 s f pos3 bad3 (l++[zh4 s pos])
  else (l++[zh4 s pos],fm s pos3 (jK s pos3 bad3 (chr 41)),jW s pos3 (jK s pos3 bad3 (chr 41)))
def zcd (s:B8)(pos:Nat)(bad:Int):Int:=if (tok s pos).kind != 110 then zjy s pos bad else bad
def zce (s:B8)(pos:Nat)(bad:Int):Nat:=fm s pos (zcd s pos bad)
def zac (s:B8)(pos:Nat)(bad:Int):Int:=jW s pos (zcd s pos bad)
def yD (s:B8)(pos:Nat)(bad:Int):List zef × Nat × Int:=
 if isS s (zce s pos bad) (zac s pos bad) (chr 40) then
  zb7 s 5 (zbz s (zce s pos bad) (zac s pos bad) (chr 40)) (zby s (zce s pos bad) (zac s pos bad) (chr 40)) []
 else ([],zbz s (zce s pos bad) (zac s pos bad) (chr 40),zby s (zce s pos bad) (zac s pos bad) (chr 40))
variable {row:Option Nat} {w w':W8} {B:List Nat}
theorem yC.grown {a:W8}(h:yC B a w)(hg:w.grownBy w' row)(hr:∀ k,row=some k->a.heap.size<=k\/k∈B):yC B a w':=
 ⟨hg.os.trans h.os,hg.tape.trans h.tape,hg.output.trans h.output,Nat.le_trans h.size hg.size,λ k hk hn=>(hg.block k (Nat.lt_of_lt_of_le hk h.size) (λ e=>by rcases hr k e.symm with h1 | h1;omega;exact hn h1)).trans (h.block k hk hn)⟩
theorem yC.eK (hg:w.grownBy w' row):yC row.toList w w':=
 (yC.refl _ _).grown hg (λ k e=>.inr (by simp[e]))
variable {xs:V8} {n size base:Nat} {v:Value} {e:TypeId}
theorem za4 (h:w.ownsRow base e size v n xs)(k:yC B w w')(hB:∀ x∈B,x<base):w'.ownsRow base e size v n xs:=by
 refine⟨h.1,?_⟩;rcases h.2 with hn | ⟨g,cap,cur,rfl,hb,dn,rest⟩
 ·exact .inl hn
 ·refine .inr ⟨g,cap,cur,rfl,hb,?_,rest⟩;rw[k.block g (Array.getElem?_eq_some_iff.1 dn).1 (λ hm=>by have:=hB g hm;omega)];exact dn
theorem zE (h:w.ownsRow base e size v n xs):∃ a cap,v=.slice a n cap:=by
 rcases h.2 with⟨rfl,rfl⟩ | ⟨g,cap,cur,rfl,_⟩
 ·exact⟨none,0,rfl⟩
 ·exact⟨_,_,rfl⟩
theorem zI {base':Nat}(h:w.ownsRow base e size v n xs)(hb:base'<=base):w.ownsRow base' e size v n xs:=by
 refine⟨h.1,?_⟩;rcases h.2 with hn | ⟨g,cap,cur,rfl,Ap,rest⟩
 ·exact .inl hn
 ·exact .inr ⟨g,cap,cur,rfl,by omega,rest⟩
end
section
open Go.RowKit
def zrj (s:B8)(pos:Nat)(bad:Int):Bool:=decide (bad<0)&&(tok s pos).kind==119
def zjp (s:B8)(pos:Nat)(bad:Int):Nat:=if zrj s pos bad then fm s pos bad else pos
def zng (s:B8)(pos:Nat)(bad:Int):Int:=if zrj s pos bad then jW s pos bad else bad
def ze3 (s:B8)(pos:Nat)(bad:Int):yR:=
 ⟨(tok s (zjp s pos bad)).text,(yD s (zjp s pos bad) (zng s pos bad)).1,zrj s pos bad,(tok s (zjp s pos bad)).at_,(tok s pos).at_⟩
def xM (s:B8)(pos:Nat)(bad:Int):Nat × Int:=(yD s (zjp s pos bad) (zng s pos bad)).2
theorem zpv {w:W8}{n j:Nat}{v:Value}(h:w.cell? ⟨n,j,none⟩=some v)(o:Obj):(w.alloc o).cell? ⟨n,j,none⟩=some v:=by
 rw[World.cell?_alloc_past _ _ _ (World.block_lt_of_cell? w ⟨n,j,none⟩ h)];exact h
end
section
open Go.RowKit
def xA (s:B8)(p:Nat)(bd:Int)(n:Nat):Int:=if n==3 then zjy s p bd else bd
def zig (s:B8):Nat->Nat->Int->List yR->List yR × Nat × Int
 | 0,p,bd,l=>(l,p,bd)
 | f+1,p,bd,l=>
  if isS s (xM s p (xA s p bd l.length)).1 (xM s p (xA s p bd l.length)).2 { data:=#[44] } then
   zig s f (zbz s (xM s p (xA s p bd l.length)).1 (xM s p (xA s p bd l.length)).2 { data:=#[44] }) (zby s (xM s p (xA s p bd l.length)).1 (xM s p (xA s p bd l.length)).2 { data:=#[44] }) (l++[ze3 s p (xA s p bd l.length)])
  else (l++[ze3 s p (xA s p bd l.length)],zbz s (xM s p (xA s p bd l.length)).1 (xM s p (xA s p bd l.length)).2 { data:=#[44] },zby s (xM s p (xA s p bd l.length)).1 (xM s p (xA s p bd l.length)).2 { data:=#[44] })
structure yN where
 head:yR
 body:List yR
def KS (s:B8)(pos:Nat)(bad:Int):yR:=⟨(tok s pos).text,(yD s pos bad).1,false,(tok s pos).at_,0⟩
def zbh (s:B8)(pos:Nat)(bad:Int):List yR × Nat × Int:=
 if isS s (yD s pos bad).2.1 (yD s pos bad).2.2 { data:=#[58,45] } then
  zig s 4 (zbz s (yD s pos bad).2.1 (yD s pos bad).2.2 { data:=#[58,45] }) (zby s (yD s pos bad).2.1 (yD s pos bad).2.2 { data:=#[58,45] }) []
 else ([],zbz s (yD s pos bad).2.1 (yD s pos bad).2.2 { data:=#[58,45] },zby s (yD s pos bad).2.1 (yD s pos bad).2.2 { data:=#[58,45] })
def zl3 (s:B8)(pos:Nat)(bad:Int):Nat:=fm s (zbh s pos bad).2.1 (jK s (zbh s pos bad).2.1 (zbh s pos bad).2.2 { data:=#[46] })
def zco (s:B8)(pos:Nat)(bad:Int):Int:=jW s (zbh s pos bad).2.1 (jK s (zbh s pos bad).2.1 (zbh s pos bad).2.2 { data:=#[46] })
theorem yc9 {w:W8}{base base':Nat}{e e':TypeId}{size Mh:Nat}{v v':Value}{n n':Nat}{xs KJ:V8}(h:w.ownsRow base e size v n xs)(h':w.ownsRow base' e' Mh v' n' KJ)(bG:e≠e'):v.ownBlock=none\/v.ownBlock≠v'.ownBlock:=by
 rcases h.2 with⟨rfl,_⟩ | ⟨g,cap,cur,rfl,_,hg,_⟩
 ·exact .inl rfl
 ·refine .inr ?_;rcases h'.2 with⟨rfl,_⟩ | ⟨g',oI,BW,rfl,_,jo,_⟩
  ·simp[Value.ownBlock]
  ·simp only[Value.ownBlock];intro e1;injection e1 with e1
   subst e1;rw[hg] at jo;injection jo with jo
   injection jo with _ jo _
   exact bG jo
end
section
open Go.RowKit
def xT (nm:B8):P9->Nat->Int
 | [],_=>-1
 | x::r,k=>if x.1.toList==nm.toList then k else xT nm r (k+1)
def xK (l:P9)(nm:B8):Int:=xT nm l 0
theorem z7l {w:W8}{base:Nat}{e:TypeId}{v:Value}{n:Nat}{xs:V8}(h:w.ownsRow base e 1 v n xs)(hn:0<n):∃ g cap,v=.slice (some ⟨g,0,none⟩) n cap/\base<=g/\n<=cap/\cap<=maxLen/\∀ k,k<n->w.cell? ⟨g,k,none⟩=xs[k]?:=by
 rcases h.2 with⟨_,h0⟩ | ⟨g,cap,cur,rfl,hb,hg,dG,dx,eZ,ht⟩
 ·omega
 ·refine⟨g,cap,rfl,hb,dG,dx,λ k hk=>?_⟩;exact h.cellAt k (by omega)
theorem zbq:(Tryz.prog.info? 9).map (λ i=>(i.zero,i.size,i.bytes))=some (some (.string { data:=#[] }),1,16):=by kernel_rfl
theorem z1d:(Tryz.prog.info? 3).map (λ i=>(i.zero,i.size,i.bytes))=some (some (.int .i64 0),1,8):=by kernel_rfl
def zao (ps:P9)(nm:B8)(n:Nat):P9:=if xK ps nm<0 then ps++[(nm,n)] else ps
def zdu (ps:P9)(nm:B8)(n:Nat):Bool:=if xK ps nm<0 then true else ((ps.getD (xK ps nm).toNat (nm,0)).2:Int)==n
theorem z6i (nm:B8):∀ (l:P9) (k:Nat),0<=xT nm l k->(k:Int)<=xT nm l k/\xT nm l k<k+l.length
 | [],k,h=>by simp[xT] at h
 | x::r,k,h=>by
  unfold xT at h ⊢
  split
  ·simp;omega
  ·rename_i bG;rw[if_neg bG] at h;have:=z6i nm r (k+1) h;simp;omega
theorem zc9 {ps:P9}{nm:B8}(h:0<=xK ps nm):(xK ps nm).toNat<ps.length:=by
 have:=z6i nm ps 0 h;unfold xK at *;omega
end
section
open Go.RowKit
def zaw:List yR->P9->Int × P9
 | [],ps=>(-1,ps)
 | A::r,ps=>if zdu ps A.pred A.aS.length then zaw r (zao ps A.pred A.aS.length) else (A.at_,zao ps A.pred A.aS.length)
def yN.atoms (R:yN):List yR:=R.head::R.body
theorem vV {w:W8}{base:Nat}{e:TypeId}{size:Nat}{v:Value}{n:Nat}{xs:V8}(h:w.ownsRow base e size v n xs):n<=maxLen:=by
 rcases h.2 with⟨_,h0⟩ | ⟨g,cap,cur,_,_,_,h1,h2,_⟩ <;> omega
end
section
open Go.RowKit
def MP (nm:B8)(t:zef):Bool:=t.isVar&&t.text.toList==nm.toList
def z3m (nm:B8)(A:yR):Bool:=!A.no&&A.aS.any (MP nm)
def zp1 (nm:B8)(l:List yR):Bool:=l.any (z3m nm)
theorem zvd {α:Type}{f:α->Bool}{l:List α}{k:Nat}(h:k<l.length):(l.drop k).any f=(f l[k]||(l.drop (k+1)).any f):=by
 rw[List.drop_eq_getElem_cons h,List.any_cons]
end
section
open Go.RowKit
def za1 (body:List yR):List zef->Int
 | []=>-1
 | t::r=>if t.isVar&&!zp1 t.text body then t.at_ else za1 body r
end
section
open Go.RowKit
def zb1 (body:List yR):List yR->Int
 | []=>-1
 | A::r=>if 0<=(if A.no then za1 body A.aS else -1) then za1 body A.aS else zb1 body r
def ze6 (R:yN):Int:=if 0<=za1 R.body R.head.aS then za1 R.body R.head.aS else zb1 R.body R.body
def zbf:List yN->Int
 | []=>-1
 | R::r=>if 0<=ze6 R then ze6 R else zbf r
end
section
open Go.RowKit
structure dN (w:W8)(b:Nat)(s:B8)(pos num:Nat)(mv:Value):Prop where
 lt:b<w.heap.size
 c0:w.cell? ⟨b,0,none⟩=some (.string s)
 c1:w.cell? ⟨b,1,none⟩=some (.int .i64 (zD s pos).1)
 c2:w.cell? ⟨b,2,none⟩=some (.int .i64 (zD s pos).2.1)
 c3:w.cell? ⟨b,3,none⟩=some (.int .i64 (zD s pos).2.2)
 c4:w.cell? ⟨b,4,none⟩=some (.int .i64 num)
 c5:w.cell? ⟨b,5,none⟩=some mv
 fz:∀ o,w.frozen? ⟨b,o,none⟩=false
variable {mv:Value} {pos num b:Nat} {s:B8} {w:W8}
theorem dN.kept {B:List Nat}{w':W8}(h:dN w b s pos num mv)(k:yC B w w')(hn:b∉B):dN w' b s pos num mv:=
 ⟨Nat.lt_of_lt_of_le h.lt k.size,(k.cell h.lt hn).trans h.c0,(k.cell h.lt hn).trans h.c1,(k.cell h.lt hn).trans h.c2,(k.cell h.lt hn).trans h.c3,(k.cell h.lt hn).trans h.c4,(k.cell h.lt hn).trans h.c5,λ o=>(k.frozen h.lt hn).trans (h.fz o)⟩
theorem xD (s:B8)(i:Nat)(hi:i<=s.size):(zD s i).2.1<=(zD s i).2.2/\(zD s i).2.2<=s.size:=by
 have h1:=zfh yH s i hi;have h2:=zv8 (s.extract (skip yH s i) s.size);rw[zcf] at h2;unfold zD;exact⟨by simp,by simp only;omega⟩
def yB (s:B8)(pos:Nat)(k:Int):Nat:=if (zD s pos).1==k then (zD s pos).2.2 else pos
def yT (s:B8)(pos:Nat):B8:=s.extract (zD s pos).2.1 (zD s pos).2.2
theorem zl5 (s:B8)(i:Nat)(hi:i<=s.size)(hs:s.size<=maxLen)(w:W8):
  Calls Tryz.prog 73 #[.string s,.int .i64 i] w λ e w'=>e=.returned (.agg #[.int .i64 (zD s i).1,.int .i64 (zD s i).2.1,.int .i64 (zD s i).2.2])/\Below w.heap.size w w':=z7o s i hi hs w
variable {w1:W8}
theorem z7j {pos':Nat}(h:dN w1 b s pos num mv):
  dN (((w1.setCell ⟨b,1,none⟩ (.int .i64 (zD s pos').1)).setCell ⟨b,2,none⟩ (.int .i64 (zD s pos').2.1)).setCell ⟨b,3,none⟩ (.int .i64 (zD s pos').2.2)) b s pos' num mv:=by
 obtain⟨bP,c0,c1,c2,c3,c4,c5,fz⟩:=h;refine⟨by simpa using bP,?_,?_,?_,?_,?_,?_,?_⟩
 all_goals go_simp
theorem Below.gR (h:Below w.drew.heap.size w.drew w1):Below w.heap.size w w1:=⟨h.os,h.tape,h.output,h.size,h.block⟩
theorem yQ (s:B8)(pos num:Nat)(mv:Value)(k:Int)(b:Nat)(w:W8)(h:dN w b s pos num mv)(bn:pos<=s.size)(hs:s.size<=maxLen):
  Calls Tryz.prog 116 #[.pointer (some ⟨b,0,none⟩),.int .i64 k] w λ e w'=>e=.returned (.bool ((zD s pos).1==k))/\yC [b] w w'/\dN w' b s (yB s pos k) num mv:=by
 have h':=h;obtain⟨bP,c0,c1,c2,c3,c4,c5,fz⟩:=h
 cases hk:(zD s pos).1==k with
 | false=>
  have cN:((zD s pos).1 != k)=true:=by simp[bne,hk]
  have e1:yB s pos k=pos:=by unfold yB;rw[if_neg (by rw[hk];decide)]
  rw[e1];clear hk e1;go_enter Tryz.func116,Tryz.ntmps116;go_wp2_with fail;go_ret;exact⟨rfl,yC.refl _ _,h'⟩
 | true=>
  have cN:((zD s pos).1 != k)=false:=by simp[bne,hk]
  have e1:yB s pos k=(zD s pos).2.2:=by unfold yB;rw[if_pos hk]
  rw[e1];have hle:=(xD s pos bn).2;clear hk e1;have HP:=zC (λ (w1:W8) (hb:Below w.heap.size w w1)=>h'.kept ((yC.refl [] w).aF hb) (by simp));go_enter Tryz.func116,Tryz.ntmps116;go_wp2_with fail
  go_region_with (go_at_call 73;refine (zl5 s (zD s pos).2.2 hle hs _).mono ?_;rintro e w1 ⟨rfl,aT⟩;obtain⟨JI,x0,x1,x2,x3,x4,x5,fzx⟩:=zA HP w1 (Below.gR aT))
  all_goals
   go_wp2_with fail;go_ret;exact⟨rfl,((((yC.refl [b] w).aF (Below.gR aT)).setCell (by simp) _).setCell (by simp) _).setCell (by simp) _,z7j (pos':=(zD s pos).2.2) (zA HP w1 (Below.gR aT))⟩
theorem z0r (s:B8)(hs:s.size<=281474976710656)(w:W8):
  Calls Tryz.prog 198 #[.string s] w λ e w'=>e=.returned (.string s)/\Below w.heap.size w w':=by
 go_enter Tryz.func198,Tryz.ntmps198;go_wp2_with fail;refine (Tryz.stringslite_Clone s _ hs).mono ?_;rintro e w1 ⟨rfl,aT⟩;go_wp2_with fail;go_ret;exact⟨rfl,aT⟩
end
section
open Go.RowKit
variable {v:Value} {j:Nat}
theorem zku (e:zX)(h:(zW e)[j]?=some v):(j=0/\v=.int .i64 (e.length:Nat))\/∃ i,i<12/\((j=1+i*2/\v=.string (eAt e i).1)\/(j=1+i*2+1/\v=.string (eAt e i).2)):=by
 have hj:j<25:=(List.getElem?_eq_some_iff.1 h).1;rcases Nat.eq_zero_or_pos j with rfl | hp
 ·left;refine⟨rfl,?_⟩;exact (Option.some.inj h).symm
 ·right
  refine⟨(j-1)/2,by omega,?_⟩;rcases Nat.mod_two_eq_zero_or_one (j-1) with hm | hm
  ·left
   have e1:j=1+(j-1)/2*2:=(by omega);refine⟨e1,?_⟩;have:=zad e (i:=(j-1)/2) (by omega);rw[<-e1] at this;exact Option.some.inj (h.symm.trans this)
  ·right
   have e1:j=1+(j-1)/2*2+1:=(by omega);refine⟨e1,?_⟩;have:=qJ e (i:=(j-1)/2) (by omega);rw[<-e1] at this;exact Option.some.inj (h.symm.trans this)
theorem zvq (e:zX)(x:B8 × B8)(i:Nat):eAt (e++[x]) i=if i=e.length then x else eAt e i:=by
 unfold eAt;rw[List.getElem?_append]
 split
 ·rename_i h;rw[if_neg (by omega)]
 ·rename_i h
  split
  ·rename_i h2;subst h2;simp
  ·rename_i h2;rw[List.getElem?_eq_none (by simp;omega),List.getElem?_eq_none (by omega)]
structure jF (w:W8)(b:Nat)(e:zX):Prop where
 cells:z8p w b e
 arr:∃ cs,w.heap[b]?=some (.cells cs 135 (0,0))/\cs.size=25
variable {e:zX} {b:Nat} {w:W8}
theorem jF.fz (h:jF w b e)(j:Nat):w.frozen? ⟨b,j,none⟩=false:=by
 obtain⟨cs,h1,_⟩:=h.arr;simp[World.frozen?,h1]
theorem jF.lt (h:jF w b e):b<w.heap.size:=by
 obtain⟨cs,h1,_⟩:=h.arr;exact (Array.getElem?_eq_some_iff.1 h1).1
theorem jF.whole (h:jF w b e):w.heap[b]?=some (.cells (zW e).toArray 135 (0,0)):=by
 obtain⟨cs,h1,h2⟩:=h.arr;have:cs=(zW e).toArray:=by
  apply Array.ext
  ·rw[h2];rfl
  ·intro j hj CG;have:=h.cells j _ (by rw[<-List.getElem?_toArray];exact Array.getElem?_eq_getElem CG);rw[cell_of_row w b j cs _ _ h1,Array.getElem?_eq_getElem hj] at this;exact Option.some.inj this
 rw[h1,this]
theorem jF.of (h:w.heap[b]?=some (.cells (zW e).toArray 135 (0,0))):jF w b e:=
 ⟨λ j v hj=>by rw[cell_of_row w b j _ _ _ h,List.getElem?_toArray];exact hj,_,h,rfl⟩
theorem jF.block {w':W8}(h:jF w b e)(hb:w'.heap[b]?=w.heap[b]?):jF w' b e:=jF.of (hb.trans h.whole)
theorem jF.drew (h:jF w b e):jF w.drew b e:=⟨h.cells,h.arr⟩
theorem ztg {T:TypeId}{n:Nat}(h:∃ cs,w.heap[b]?=some (.cells cs T (0,0))/\cs.size=n):∃ cs,(w.setCell ⟨b,j,none⟩ v).heap[b]?=some (.cells cs T (0,0))/\cs.size=n:=by
 obtain⟨cs,h1,h2⟩:=h;rw[setCell_eq_setRow w b j cs T (0,0) v h1];exact⟨_,setRow_heap w b cs _ T _ h1,by simpa using h2⟩
def gy (w:W8)(b k:Nat)(v n:B8):W8:=((w.setCell ⟨b,1+k*2,none⟩ (.string v)).setCell ⟨b,1+k*2+1,none⟩ (.string n)).setCell ⟨b,0,none⟩ (.int .i64 ((k:Int)+1))
theorem jF.set (h:jF w b e)(hl:e.length<12)(v n:B8):jF (gy w b e.length v n) b (e++[(v,n)]):=by
 refine⟨λ j x hj=>?_,ztg (ztg (ztg h.arr))⟩;have c0:=h.cells 0 _ rfl;have cv:=h.cells _ _ (zad e hl);have cn:=h.cells _ _ (qJ e hl);unfold gy;rcases zku _ hj with⟨rfl,rfl⟩ | ⟨i,hi,⟨rfl,rfl⟩ | ⟨rfl,rfl⟩⟩
 ·rw[World.cell?_setCell_same' _ _ _ (by rw[World.cell?_setCell_other _ _ _ _ (by intro e;injection e;omega),World.cell?_setCell_other _ _ _ _ (by intro e;injection e;omega),c0];rfl)];simp
 ·rw[World.cell?_setCell_other _ _ _ _ (by intro e;injection e;omega),World.cell?_setCell_other _ _ _ _ (by intro e;injection e;omega),zvq]
  by_cases hk:i=e.length
  ·subst hk;rw[World.cell?_setCell_same' _ _ _ (by rw[cv];rfl),if_pos rfl]
  ·rw[World.cell?_setCell_other _ _ _ _ (by intro e;injection e;omega),if_neg hk];exact h.cells _ _ (zad e hi)
 ·rw[World.cell?_setCell_other _ _ _ _ (by intro e;injection e;omega),zvq]
  by_cases hk:i=e.length
  ·subst hk;rw[World.cell?_setCell_same' _ _ _ (by rw[World.cell?_setCell_other _ _ _ _ (by intro e;injection e;omega),cn];rfl),if_pos rfl]
  ·rw[World.cell?_setCell_other _ _ _ _ (by intro e;injection e;omega),World.cell?_setCell_other _ _ _ _ (by intro e;injection e;omega),if_neg hk];exact h.cells _ _ (qJ e hi)
theorem yC.gy {B:List Nat}{a:W8}(h:yC B a w)(hp:b∈B\/a.heap.size<=b)(k:Nat)(v n:B8):yC B a (Go.Proofs.YtldkpahaocjdpaaGreat.gy w b k v n):=
 ((h.setCell (p:=⟨b,1+k*2,none⟩) hp _).setCell (p:=⟨b,1+k*2+1,none⟩) hp _).setCell (p:=⟨b,0,none⟩) hp _
def pmB (e:zX)(v n:B8):Option zX:=
 match pAt e v with
 | some x=>if x.toList==n.toList then some e else none
 | none=>some (e++[(v,n)])
def zcb (w:W8)(b:Nat)(r:Option zX)(en:Ending)(w':W8):Prop:=yC [b] w w'/\en=.returned (.bool r.isSome)/\∀ e',r=some e'->jF w' b e'
theorem z2p (w:W8)(b:Nat)(e:zX)(v n:B8)(h:jF w b e)(hl:e.length<=12)(hr:pAt e v=none->e.length<12):
  Calls Tryz.prog 147 #[.pointer (some ⟨b,0,none⟩),.string v,.string n] w (zcb w b (pmB e v n)):=by
 have HN:=zC (zsa w b e v h.cells hl);have HP:=zC (show zcb w b (pmB e v n)=zcb w b (match pAt e v with | some x=>if x.toList==n.toList then some e else none | none=>some (e++[(v,n)])) from rfl);have c0:=h.cells 0 _ rfl;have f0:=h.fz 0;have HB:=zC h;have hb:=h.lt;clear h
 cases hp:pAt e v with
 | some x=>
  have HX:=zC (show dr e v=x by unfold dr;rw[hp];rfl);rw[hp] at HP HN;clear hr;have xa:=zC hp;clear hp;go_enter Tryz.func147,Tryz.ntmps147;go_wp2_with (go_at_call 201;refine (zA HN).mono ?_;rintro en w1 ⟨rfl,bq⟩;subst bq);rw[zA HX];go_wp2_with fail;go_ret;rw[zA HP];refine⟨yC.refl _ _,?_,λ e' iE=>?_⟩
  ·split <;> rename_i hq <;> simp[hq]
  ·split at iE
   ·cases iE;exact zA HB
   ·cases iE
 | none=>
  have bP:=hr hp;have HX:=zC (show dr e v={ data:=#[] } by unfold dr;rw[hp];rfl);rw[hp] at HP HN;clear hr;have xa:=zC hp;clear hp;have cv:=(zA HB).cells _ _ (zad e bP);have cn:=(zA HB).cells _ _ (qJ e bP);have fv:=(zA HB).fz (1+e.length*2);have fn:=(zA HB).fz (1+e.length*2+1);have lG:(e.length:Int)<12:=by omega
  go_enter Tryz.func147,Tryz.ntmps147;go_wp2_with (go_at_call 201;refine (zA HN).mono ?_;rintro en w1 ⟨rfl,bq⟩;subst bq)
  go_region
  go_wp2_with fail;go_ret;rw[zA HP];exact⟨((yC.refl [b] w1).gy (b:=b) (by simp) e.length v n).drew,rfl,λ e' iE=>by cases iE;exact ((zA HB).set bP v n).drew⟩
end
section
open Go.RowKit
theorem zkq (W:W8)(v:Value):(Instr.typeAssert (.iface 130 v) 191 130 true).run Tryz.prog W=.ok (.tuple #[v,.bool true]) W:=by kernel_rfl
theorem zie (W:W8)(v:Value):(Instr.typeAssert (.iface 193 v) 191 193 true).run Tryz.prog W=.ok (.tuple #[v,.bool true]) W:=by kernel_rfl
theorem zkp (W:W8)(v:Value):(Instr.typeAssert (.iface 130 v) 191 193 true).run Tryz.prog W=.ok (.tuple #[.string { data:=#[] },.bool false]) W:=by kernel_rfl
def zaz (t:zb8):Value:=.iface (if t.1 then 130 else 193) (.string t.2)
def pmT (e:zX)(t:zb8)(n:B8):Option zX:=if t.1 then pmB e t.2 n else if t.2.toList==n.toList then some e else none
theorem zym (w:W8)(b:Nat)(e:zX)(t:zb8)(n:B8)(h:jF w b e)(hl:e.length<=12)(hr:t.1=true->pAt e t.2=none->e.length<12):
  Calls Tryz.prog 101 #[.pointer (some ⟨b,0,none⟩),zaz t,.string n] w (zcb w b (pmT e t n)):=by
 obtain⟨c,v⟩:=t;have HB:=zC h;have HI:=zC h;clear h;have h1:=zkq;have h2:=zie;have h3:=zkp
 cases c with
 | true=>
  have HN:=zC (z2p w b e v n (zA HI) hl (hr rfl));clear hr;have HP:=zC (show zcb w b (pmT e (true,v) n)=zcb w b (pmB e v n) from rfl);rw[show zaz (true,v)=.iface 130 (.string v) from rfl];go_enter Tryz.func101,Tryz.ntmps101;go_wp2_with (go_at_call 147;refine (zA HN).mono ?_;rintro en w1 ⟨hk,rfl,ak⟩;have HK:=zC hk;have HI:=zC ak;clear hk ak);go_ret;rw[zA HP];exact⟨zA HK,rfl,zA HI⟩
 | false=>
  have HP:=zC (show zcb w b (pmT e (false,v) n)=zcb w b (if v.toList==n.toList then some e else none) from rfl);rw[show zaz (false,v)=.iface 193 (.string v) from rfl];go_enter Tryz.func101,Tryz.ntmps101;go_wp2_with fail;go_ret;rw[zA HP];refine⟨yC.refl _ _,?_,λ e' iE=>?_⟩
  ·split <;> rename_i hq <;> simp[hq]
  ·split at iE
   ·cases iE;exact zA HB
   ·cases iE
end
end Go.Proofs.YtldkpahaocjdpaaGreat
