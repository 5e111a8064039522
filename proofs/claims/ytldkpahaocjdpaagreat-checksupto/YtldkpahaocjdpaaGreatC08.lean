/-
  Plain: what the reference's parser reads as a rule; how a rule lies in memory while it is read.
-/
import Derived.Test.YtldkpahaocjdpaaGreatC07
set_option maxHeartbeats 16000000
set_option maxRecDepth 1000000
namespace Go.Proofs.YtldkpahaocjdpaaGreat
section
open Go.RowKit
def zL.cells (A:zL)(tv:Value):V8:=[.string A.pred,tv,.bool A.no,.int .i64 A.at_,.int .i64 A.ak]
def zam (bs:List (zL × Value)):V8:=bs.flatMap λ x=>x.1.cells x.2
theorem znk (l:List (zL × Value))(A:zL)(tv:Value):zam (l++[(A,tv)])=zam l++A.cells tv:=by simp[zam]
def zX (s:B8)(p:Nat)(bd:Int)(n:Nat):Int:=if n==3 then zab s p bd else bd
def zb4 (s:B8):Nat->Nat->Int->List zL->List zL × Nat × Int
 | 0,p,bd,l=>(l,p,bd)
 | f+1,p,bd,l=>
  if im s (yG s p (zX s p bd l.length)).1 (yG s p (zX s p bd l.length)).2 { data:=#[44] } then
   zb4 s f (vA s (yG s p (zX s p bd l.length)).1 (yG s p (zX s p bd l.length)).2 { data:=#[44] }) (vM s (yG s p (zX s p bd l.length)).1 (yG s p (zX s p bd l.length)).2 { data:=#[44] }) (l++[xY s p (zX s p bd l.length)])
  else (l++[xY s p (zX s p bd l.length)],vA s (yG s p (zX s p bd l.length)).1 (yG s p (zX s p bd l.length)).2 { data:=#[44] },vM s (yG s p (zX s p bd l.length)).1 (yG s p (zX s p bd l.length)).2 { data:=#[44] })
structure zP where
 head:zL
 body:List zL
def zK (s:B8)(pos:Nat)(bad:Int):zL:=⟨(tok s pos).text,(zI s pos bad).1,false,(tok s pos).at_,0⟩
def jI (s:B8)(pos:Nat)(bad:Int):List zL × Nat × Int:=
 if im s (zI s pos bad).2.1 (zI s pos bad).2.2 { data:=#[58,45] } then
  zb4 s 4 (vA s (zI s pos bad).2.1 (zI s pos bad).2.2 { data:=#[58,45] }) (vM s (zI s pos bad).2.1 (zI s pos bad).2.2 { data:=#[58,45] }) []
 else ([],vA s (zI s pos bad).2.1 (zI s pos bad).2.2 { data:=#[58,45] },vM s (zI s pos bad).2.1 (zI s pos bad).2.2 { data:=#[58,45] })
def zbi (s:B8)(pos:Nat)(bad:Int):Nat:=zW s (jI s pos bad).2.1 (xQ s (jI s pos bad).2.1 (jI s pos bad).2.2 { data:=#[46] })
def jG (s:B8)(pos:Nat)(bad:Int):Int:=zT s (jI s pos bad).2.1 (xQ s (jI s pos bad).2.1 (jI s pos bad).2.2 { data:=#[46] })
variable {wd s:B8} {bd:Int} {p:Nat}
theorem zbc (h:0<=bd):0<=vM s p bd wd:=by
 unfold vM;split
 ·exact jH h
 ·exact h
theorem zls (h:0<=bd):0<=xQ s p bd wd:=by
 unfold xQ;split
 ·exact h
 ·exact jT _ _ _
variable {n:Nat}
theorem zoa (h:0<=bd):0<=zR s p bd n:=by
 unfold zR;split
 ·exact jT _ _ _
 ·exact h
theorem zsq (f:Nat):∀ {p:Nat} {bd:Int} {l:List xK},0<=bd->0<=(j9 s f p bd l).2.2:=by
 induction f with
 | zero=>intro p bd l h;exact h
 | succ f ih=>
  intro p bd l h;have h1:0<=zT s p (zR s p bd l.length):=jH (zoa h);rw[j9]
  split
  ·exact ih (zbc h1)
  ·exact jH (zls (zbc h1))
theorem zlg (h:0<=bd):0<=(zI s p bd).2.2:=by
 have h0:0<=yB s p bd:=by
  unfold yB;split
  ·exact jT _ _ _
  ·exact h
 have h1:0<=qT s p bd:=jH h0;unfold zI
 split
 ·exact zsq 5 (zbc h1)
 ·exact zbc h1
theorem zpl (h:0<=bd):0<=(yG s p bd).2:=by
 unfold yG;refine zlg ?_;unfold vQ;split
 ·exact jH h
 ·exact h
theorem ztr (h3:n<=3)(h:im s (yG s p (zX s p bd n)).1 (yG s p (zX s p bd n)).2 wd=true):n+1<=3:=by
 rcases Nat.lt_or_ge n 3 with h1 | h1
 ·omega
 ·have e:n=3:=by omega
  subst e;have h2:=zzk h;have h4:0<=zX s p bd 3:=by simp[zX];exact jT _ _ _
  have h5:=zpl (s:=s) (p:=p) h4;omega
theorem zu3 (s:B8)(p:Nat)(bd:Int)(l:List zL)(h:l.length<=3):zb4 s (4-l.length) p bd l =
  if im s (yG s p (zX s p bd l.length)).1 (yG s p (zX s p bd l.length)).2 { data:=#[44] } then
   zb4 s (4-(l++[xY s p (zX s p bd l.length)]).length) (vA s (yG s p (zX s p bd l.length)).1 (yG s p (zX s p bd l.length)).2 { data:=#[44] }) (vM s (yG s p (zX s p bd l.length)).1 (yG s p (zX s p bd l.length)).2 { data:=#[44] }) (l++[xY s p (zX s p bd l.length)])
  else (l++[xY s p (zX s p bd l.length)],vA s (yG s p (zX s p bd l.length)).1 (yG s p (zX s p bd l.length)).2 { data:=#[44] },vM s (yG s p (zX s p bd l.length)).1 (yG s p (zX s p bd l.length)).2 { data:=#[44] }):=by
 have e1:4-l.length=(3-l.length)+1:=by omega
 have e2:4-(l++[xY s p (zX s p bd l.length)]).length=3-l.length:=by simp
 rw[e1,e2,zb4]
structure Dn (w:W8)(n:Nat)(A:zL)(hv bv:Value):Prop where
 c0:w.cell? ⟨n,0,none⟩=some (.string A.pred)
 c1:w.cell? ⟨n,1,none⟩=some hv
 c2:w.cell? ⟨n,2,none⟩=some (.bool A.no)
 c3:w.cell? ⟨n,3,none⟩=some (.int .i64 A.at_)
 c4:w.cell? ⟨n,4,none⟩=some (.int .i64 A.ak)
 c5:w.cell? ⟨n,5,none⟩=some bv
 fz:∀ o,w.frozen? ⟨n,o,none⟩=false
variable {hv bv:Value} {A:zL} {w w':W8}
theorem Dn.kept {B:List Nat}(h:Dn w n A hv bv)(k:zN B w w')(aG:n<w.heap.size)(hn:n∉B):Dn w' n A hv bv:=
 ⟨(k.cell aG hn).trans h.c0,(k.cell aG hn).trans h.c1,(k.cell aG hn).trans h.c2,(k.cell aG hn).trans h.c3,(k.cell aG hn).trans h.c4,(k.cell aG hn).trans h.c5,λ o=>(k.frozen aG hn).trans (h.fz o)⟩
theorem z0j {base base':Nat}{e e':TypeId}{size yq:Nat}{v v':Value}{n':Nat}{xs N2:V8}(h:w.ownsRow base e size v n xs)(h':w.ownsRow base' e' yq v' n' N2)(eI:e≠e'):v.ownBlock=none\/v.ownBlock≠v'.ownBlock:=by
 rcases h.2 with⟨rfl,_⟩ | ⟨g,cap,cur,rfl,_,hg,_⟩
 ·exact .inl rfl
 ·refine .inr ?_;rcases h'.2 with⟨rfl,_⟩ | ⟨g',kD,Pu,rfl,_,uz,_⟩
  ·simp[Value.ownBlock]
  ·simp only[Value.ownBlock];intro e1;injection e1 with e1
   subst e1;rw[hg] at uz;injection uz with uz
   injection uz with _ uz _
   exact eI uz
def z5q:zL:=⟨{ data:=#[] },[],false,0,0⟩
structure CL (w:W8)(b m:Nat)(s:B8)(H:zL)(hv:Value)(bs:List (zL × Value))(p:Nat)(bd:Int)(bv:Value)(wr:W8):Prop where
 b9:ib wr b s p bd
 hp:p<=s.size
 kept:zN [b] w wr
 rc:Dn wr m H hv bv
 zc:Dn wr w.heap.size z5q (.slice none 0 0) (.slice none 0 0)
 sz:m+1<=wr.heap.size
 nm:w.heap.size<m
 own:wr.ownsRow (m+1) 243 5 bv bs.length (zam bs)
 hd:wr.ownsRow (w.heap.size+1) 317 3 hv H.ae.length (cellsOf H.ae)
 hm:∀ k,hv.ownBlock=some k->k<m
 bl:∀ x∈bs,wr.ownsRow (m+1) 317 3 x.2 x.1.ae.length (cellsOf x.1.ae)
 blt:b<w.heap.size
variable {wr w1:W8} {bs:List (zL × Value)} {H:zL} {b m:Nat}
theorem CL.call {p':Nat}{E1:Int}(h:CL w b m s H hv bs p bd bv wr)(k:zN [b] wr w1)(hp:ib w1 b s p' E1)(hl:p'<=s.size):CL w b m s H hv bs p' E1 bv w1:=
 have aG:=h.blt;have NB:=h.nm;have aT:=h.sz
 ⟨hp,hl,h.kept.trans k,h.rc.kept k (by omega) (by simp;omega),h.zc.kept k (by omega) (by simp;omega),Nat.le_trans h.sz k.size,h.nm,yM h.own k (by simp;omega),yM h.hd k (by simp;omega),h.hm,λ x hx=>yM (h.bl x hx) k (by simp;omega),h.blt⟩
theorem CL.append {w5:W8}(h:CL w b m s H hv bs p bd bv w1){o1 o2:Obj}{tv uW:Value}
  (ht:w1.ownsRow (m+1) 317 3 tv A.ae.length (cellsOf A.ae))
  (aC:w5.ownsRow (m+1) 243 5 uW (bs.length+1) (zam bs++A.cells tv)) (hg:((w1.alloc o1).alloc o2).grownBy w5 bv.ownBlock):
  CL w b m s H hv (bs++[(A,tv)]) p bd uW (w5.setCell ⟨m,5,none⟩ uW)/\Dn w5 m H hv bv:=by
 have aG:=h.blt;have NB:=h.nm;have aT:=h.sz;have aB:∀ k,bv.ownBlock=some k->m+1<=k:=λ k e=>(h.own.lt k e).1
 have k5:zN bv.ownBlock.toList w1 w5:=(((zN.refl _ w1).alloc o1).alloc o2).grown hg (λ k e=>.inr (by simp[e]));have lJ:∀ k,k<m+1->k∉bv.ownBlock.toList:=by
  intro k hk uB
  cases hv:bv.ownBlock with
  | none=>simp[hv] at uB
  | some x=>simp[hv] at uB;have:=aB x hv;omega
 have r5:=h.rc.kept k5 (by omega) (lJ _ (by omega));have kF:∀ {base:Nat} {v:Value} {n:Nat} {xs:V8},w1.ownsRow base 317 3 v n xs->w5.ownsRow base 317 3 v n xs:=λ {base v n xs} hx=>
  World.ownsRow.kept ((hx.alloc o1).alloc o2) hg (z0j hx h.own (by decide))
 have EB:∀ {base:Nat} {e:TypeId} {size:Nat} {v:Value} {n:Nat} {xs:V8},w5.ownsRow base e size v n xs->(∀ k,v.ownBlock=some k->k≠m)->(w5.setCell ⟨m,5,none⟩ uW).ownsRow base e size v n xs:=by
  intro base e size v n xs hx hk;refine⟨hx.1,?_⟩;rcases hx.2 with hn | ⟨g,cap,cur,rfl,hb,dI,rest⟩
  ·exact .inl hn
  ·exact .inr ⟨g,cap,cur,rfl,hb,by rw[Below.heap_setCell _ _ _ _ (hk g rfl)];exact dI,rest⟩
 refine⟨⟨?_,h.hp,?_,?_,?_,?_,h.nm,?_,?_,h.hm,?_,h.blt⟩,r5⟩
 ·exact (h.b9.kept k5 (lJ _ (by omega))).kept ((zN.refl [m] _).setCell (by simp) _) (by simp;omega)
 ·exact ((((h.kept.alloc o1).alloc o2).grown hg (λ k e=>.inl (by have:=aB k e;omega)))).setCell (.inr (by simp;omega)) _
 ·obtain⟨x0,x1,x2,x3,x4,x5,xf⟩:=r5;exact⟨by go_simp,by go_simp,by go_simp,by go_simp,by go_simp,by go_simp,by go_simp⟩
 ·exact (h.zc.kept k5 (by omega) (lJ _ (by omega))).kept ((zN.refl [m] _).setCell (by simp) _) (by have:=k5.size;omega) (by simp;omega)
 ·have:=k5.size;simp;omega
 ·rw[znk,List.length_append];exact EB aC (λ k e=>by have:=(aC.lt k e).1;omega)
 ·exact EB (kF h.hd) (λ k e=>by have:=h.hm k e;omega)
 ·intro x hx;rcases List.mem_append.1 hx with hx | hx
  ·exact EB (kF (h.bl x hx)) (λ k e=>by have:=((h.bl x hx).lt k e).1;omega)
  ·simp at hx;subst hx;exact EB (kF ht) (λ k e=>by have:=(ht.lt k e).1;omega)
structure j7 (w:W8)(base:Nat)(R:zP)(hv:Value)(bs:List (zL × Value))(bv:Value):Prop where
 hd:w.ownsRow base 317 3 hv R.head.ae.length (cellsOf R.head.ae)
 bo:w.ownsRow base 243 5 bv bs.length (zam bs)
 bl:∀ x∈bs,w.ownsRow base 317 3 x.2 x.1.ae.length (cellsOf x.1.ae)
 eq:R.body=bs.map (·.1)
theorem CL.ends (h:CL w b m s H hv bs p bd bv wr)(k:zN [w.heap.size] wr w'):
  zN [b] w w'/\ib w' b s p bd/\p<=s.size/\j7 w' w.heap.size ⟨H,bs.map (·.1)⟩ hv bs bv:=by
 have aG:=h.blt;have NB:=h.nm;refine⟨⟨k.os.trans h.kept.os,k.tape.trans h.kept.tape,k.output.trans h.kept.output,Nat.le_trans h.kept.size k.size,λ i hi hn=>(k.block i (Nat.lt_of_lt_of_le hi h.kept.size) (by simp;omega)).trans (h.kept.block i hi hn)⟩,h.b9.kept k (by simp;omega),h.hp,⟨?_,?_,?_,rfl⟩⟩
 ·exact zF (yM h.hd k (by simp)) (by omega)
 ·exact zF (yM h.own k (by simp;omega)) (by omega)
 ·exact λ x hx=>zF (yM (h.bl x hx) k (by simp;omega)) (by omega)
theorem zwo {pos:Nat}{bad:Int}(aG:b<w.heap.size)
  (bg:zN [b] (w.alloc (Obj.cells #[.string { data:=#[] },.slice none 0 0,.bool false,.int IntKind.i64 0,.int IntKind.i64 0,.slice none 0 0] 246)) w1)
  (cF:ib w1 b s (zI s pos bad).2.1 (zI s pos bad).2.2) (yd:(zI s pos bad).2.1<=s.size)
  (aS:w1.ownsRow (w.heap.size+1) 317 3 hv (zI s pos bad).1.length (cellsOf (zI s pos bad).1)):
  CL w b w1.heap.size s (zK s pos bad) hv [] (zI s pos bad).2.1 (zI s pos bad).2.2 (.slice none 0 0)
   (w1.alloc (Obj.cells #[.string (tok s pos).text,hv,.bool false,.int IntKind.i64 ↑(tok s pos).at_,.int IntKind.i64 0,.slice none 0 0] 246)):=by
 have cz:=bg.size;simp at cz;refine⟨cF.kept ((zN.refl [] _).alloc _) (by simp),yd,(((zN.refl [b] w).alloc _).trans bg).alloc _,?_,?_,by simp,by omega,World.ownsRow_nil _ _ _ _,aS.alloc _,λ k e=>(aS.lt k e).2,by simp,aG⟩
 ·refine⟨?_,?_,?_,?_,?_,?_,?_⟩
  all_goals first | (rw[World.cell?_alloc_at _ _ _ _ rfl];rfl) | (intro o;rw[World.frozen?_alloc_at _ _ _ _ rfl])
 ·refine Dn.kept (Dn.kept ⟨?_,?_,?_,?_,?_,?_,?_⟩ bg (by simp) (by simp;omega)) ((zN.refl [] _).alloc _) (by omega) (by simp)
  all_goals first | (rw[World.cell?_alloc_at _ _ _ _ rfl];rfl) | (intro o;rw[World.frozen?_alloc_at _ _ _ _ rfl])
theorem yav {u0 u1 u2 u3 u4 u5:Value}(h0:w1.cell? ⟨n,0,none⟩=some u0)(h1:w1.cell? ⟨n,1,none⟩=some u1)(h2:w1.cell? ⟨n,2,none⟩=some u2)(h3:w1.cell? ⟨n,3,none⟩=some u3)(h4:w1.cell? ⟨n,4,none⟩=some u4)(h5:w1.cell? ⟨n,5,none⟩=some u5)(v0 v1 v2 v3 v4 v5:Value):
  ((((((w1.setCell ⟨n,0,none⟩ v0).setCell ⟨n,1,none⟩ v1).setCell ⟨n,2,none⟩ v2).setCell ⟨n,3,none⟩ v3).setCell ⟨n,4,none⟩ v4).setCell ⟨n,5,none⟩ v5).cell? ⟨n,0,none⟩=some v0 /\
  ((((((w1.setCell ⟨n,0,none⟩ v0).setCell ⟨n,1,none⟩ v1).setCell ⟨n,2,none⟩ v2).setCell ⟨n,3,none⟩ v3).setCell ⟨n,4,none⟩ v4).setCell ⟨n,5,none⟩ v5).cell? ⟨n,1,none⟩=some v1 /\
  ((((((w1.setCell ⟨n,0,none⟩ v0).setCell ⟨n,1,none⟩ v1).setCell ⟨n,2,none⟩ v2).setCell ⟨n,3,none⟩ v3).setCell ⟨n,4,none⟩ v4).setCell ⟨n,5,none⟩ v5).cell? ⟨n,2,none⟩=some v2 /\
  ((((((w1.setCell ⟨n,0,none⟩ v0).setCell ⟨n,1,none⟩ v1).setCell ⟨n,2,none⟩ v2).setCell ⟨n,3,none⟩ v3).setCell ⟨n,4,none⟩ v4).setCell ⟨n,5,none⟩ v5).cell? ⟨n,3,none⟩=some v3 /\
  ((((((w1.setCell ⟨n,0,none⟩ v0).setCell ⟨n,1,none⟩ v1).setCell ⟨n,2,none⟩ v2).setCell ⟨n,3,none⟩ v3).setCell ⟨n,4,none⟩ v4).setCell ⟨n,5,none⟩ v5).cell? ⟨n,4,none⟩=some v4 /\
  ((((((w1.setCell ⟨n,0,none⟩ v0).setCell ⟨n,1,none⟩ v1).setCell ⟨n,2,none⟩ v2).setCell ⟨n,3,none⟩ v3).setCell ⟨n,4,none⟩ v4).setCell ⟨n,5,none⟩ v5).cell? ⟨n,5,none⟩=some v5:=by
 refine⟨?_,?_,?_,?_,?_,?_⟩ <;> go_simp
theorem yai (w1:W8)(n:Nat)(v0 v1 v2 v3 v4 v5:Value):zN [n] w1 ((((((w1.setCell ⟨n,0,none⟩ v0).setCell ⟨n,1,none⟩ v1).setCell ⟨n,2,none⟩ v2).setCell ⟨n,3,none⟩ v3).setCell ⟨n,4,none⟩ v4).setCell ⟨n,5,none⟩ v5):=
 ((((((zN.refl [n] w1).setCell (by simp) _).setCell (by simp) _).setCell (by simp) _).setCell (by simp) _).setCell (by simp) _).setCell (by simp) _
end
section
open Go.RowKit
theorem z3p:(Tryz.prog.info? 243).map (λ i=>(i.zero,i.size,i.bytes))=some (some (.agg #[.string { data:=#[] },.slice none 0 0,.bool false,.int .i64 0,.int .i64 0]),5,64):=by kernel_rfl
theorem ztq (w1:W8)(o:Obj)(A:zL)(tv:Value)(j:Nat)(u:Value)(h:(A.cells tv)[j]?=some u):((w1.alloc o).alloc (Obj.cells #[.string A.pred,tv,.bool A.no,.int IntKind.i64 ↑A.at_,.int IntKind.i64 ↑A.ak] 243)).cell? ((⟨w1.heap.size+1,0,none⟩:Addr).add j)=some u:=by
 have e:(⟨w1.heap.size+1,0,none⟩:Addr).add j=⟨w1.heap.size+1,j,none⟩:=by unfold Addr.add;split <;> simp_all
 rw[e,World.cell?_alloc_at _ _ _ _ (by simp)];simpa[zL.cells] using h
theorem zzx (A:zL)(a:O8)(n c:Nat):∀ u∈A.cells (.slice a n c),u.oneCell'=true:=by
 intro u hu;simp[zL.cells] at hu;rcases hu with rfl | rfl | rfl | rfl | rfl <;> rfl
variable {X D E:List zL × Nat × Int} {c:Bool}
theorem zta (h:X=if c then D else E)(hm:c=true):X=D:=by rw[hm] at h;simpa using h
theorem zyl (h:X=if c then D else E)(hm:c=false):X=E:=by rw[hm] at h;simpa using h
def jU (H:zL)(hv bv:Value):Value:=.agg #[.string H.pred,hv,.bool H.no,.int .i64 H.at_,.int .i64 H.ak,bv]
theorem zuc (s:B8)(pos:Nat)(bad:Int)(b:Nat)(w:W8)(h:ib w b s pos bad)(aI:pos<=s.size)(hs:s.size<=maxLen):
  Calls Tryz.prog 125 #[.pointer (some ⟨b,0,none⟩)] w λ e w'=>∃ hv bs bv,e=.returned (jU (zK s pos bad) hv bv)/\zN [b] w w'/\ib w' b s (zbi s pos bad) (jG s pos bad)/\zbi s pos bad<=s.size/\j7 w' w.heap.size ⟨zK s pos bad,(jI s pos bad).1⟩ hv bs bv:=by
 have h':=h;obtain⟨i0,hi,cQ,cz,cx⟩:=info_parts z3p;obtain⟨aG,c0,c1,c2,c3,c4,c5,fz⟩:=h;go_enter Tryz.func125,Tryz.ntmps125;go_wp2_with fail;refine (MH s pos bad b _ (h'.kept ((zN.refl [] _).alloc _) (by simp)) aI hs).mono ?_;rintro e w1 ⟨hv,rfl,bg,cF,yd,aS⟩;have vr:=zwo aG bg cF yd (by simpa using aS);obtain⟨a0,dS,rfl⟩:=zD aS;clear c0 c1 c2 c3 c4 c5 fz h' cF bg aS;have lO:jI s pos bad=_:=jI.eq_1 s pos bad;have HB:=zC lO;clear lO;go_wp2_with fail;refine (qW s _ _ _ b _ vr.b9 vr.hp hs).mono ?_;rintro e w2 ⟨rfl,cy,iX⟩;have aP:=vr.call cy iX (vS yd);clear cy iX vr;generalize vA s (zI s pos bad).2.1 (zI s pos bad).2.2 { data:=#[58,45] }=p3 at *;generalize vM s (zI s pos bad).2.1 (zI s pos bad).2.2 { data:=#[58,45] }=b3 at *;generalize im s (zI s pos bad).2.1 (zI s pos bad).2.2 { data:=#[58,45] }=o3 at *;go_wp2_with fail
 go_loopg [4] 6 (λ g op wr=>∃ (bs:List (zL × Value)) (p:Nat) (bd:Int) (o:Bool) (bv:Value),op=.bool o/\(o=true->bs.length<=3)/\(if o then 6-bs.length else 0)<=g/\CL w b w1.heap.size s (zK s pos bad) (.slice a0 (zI s pos bad).fst.length dS) bs p bd bv wr/\jI s pos bad=(if o then zb4 s (4-(bs.map (·.1)).length) p bd (bs.map (·.1)) else (bs.map (·.1),p,bd)))
 exact⟨[],p3,b3,o3,_,rfl,by simp,by split <;> simp,aP,zA HB⟩
 case round=>
  clear HB aP;obtain⟨bs,p,bd,o,bv,rfl,nR,hg,hinv,ax⟩:=hrel;have HF:=zC ax;clear ax;obtain⟨a1,kt,rfl⟩:=zD hinv.own;have b8:=hinv.hp;have aT:=hinv.sz
  cases o with
  | false=>
   clear nR;have hF:jI s pos bad=(bs.map (·.1),p,bd):=zA HF;have Oz:=zC hF;clear hF HF;go_wp2_with fail;refine (zaq s _ _ _ b _ hinv.b9 b8 hs).mono ?_;rintro e w9 ⟨rfl,Ue,Ur⟩;have BM:=hinv.call Ue Ur (zS _ _ _ b8);obtain⟨x0,x1,x2,x3,x4,x5,xf⟩:=BM.rc;obtain⟨y0,y1,y2,y3,y4,y5,yf⟩:=BM.zc;clear Ue Ur hinv;go_wp2_with fail;obtain⟨q0,q1,q2,q3,q4,q5⟩:=yav y0 y1 y2 y3 y4 y5 (.string (zK s pos bad).pred) (.slice a0 (zI s pos bad).fst.length dS) (.bool (zK s pos bad).no) (.int .i64 (zK s pos bad).at_) (.int .i64 (zK s pos bad).ak) (.slice a1 bs.length kt);have vd:=BM.ends (yai w9 w.heap.size (.string (zK s pos bad).pred) (.slice a0 (zI s pos bad).fst.length dS) (.bool (zK s pos bad).no) (.int .i64 (zK s pos bad).at_) (.int .i64 (zK s pos bad).ak) (.slice a1 bs.length kt));have eP:zbi s pos bad=zW s p (xQ s p bd { data:=#[46] }):=(by rw[zbi,zA Oz]);have eB:jG s pos bad=zT s p (xQ s p bd { data:=#[46] }):=(by rw[jG,zA Oz]);have eF:(jI s pos bad).1=bs.map (·.1):=(by rw[zA Oz]);refine bodyPost_ret (v:=jU (zK s pos bad) (.slice a0 (zI s pos bad).fst.length dS) (.slice a1 bs.length kt)) (by simp[results,Tryz.results125,go_sem,jU,q0,q1,q2,q3,q4,q5]) rfl ⟨_,bs,_,rfl,?_⟩;rw[eP,eB,eF];exact vd
  | true=>
   have GX:bs.length<=3:=nR rfl;clear nR;have aP:=zu3 s p bd (bs.map (·.1)) (by simpa using GX);have se:=(show jI s pos bad=zb4 s (4-(bs.map (·.1)).length) p bd (bs.map (·.1)) from zA HF).trans aP;rw[List.length_map] at se;have az:=zC se;clear HF aP se;have Qs:(bs.length:Int)<=3:=(by omega);obtain⟨x0,x1,x2,x3,x4,x5,xf⟩:=hinv.rc
   by_cases t3:bs.length=3
   ·have tb:zX s p bd bs.length=zab s p bd:=(by simp[zX,t3]);have Zh:((bs.length:Int)==3)=true:=(by simp;omega);have TB:=zC tb;clear tb t3;go_wp2_with fail;refine (zai s p bd b _ hinv.b9).mono ?_;rintro e w0 ⟨rfl,iW,lp⟩;rw[<-zA TB] at lp;have aK:=hinv.call iW lp b8;have aT:=aK.sz;clear iW lp x0 x1 x2 x3 x4 x5 xf;go_wp2_with fail;refine (zzv s p (zX s p bd bs.length) b _ aK.b9 b8 hs).mono ?_;rintro e w3 ⟨tv,rfl,mf,rH,nR,po⟩;obtain⟨a3,DR,rfl⟩:=zD po;have aY:=aK.call mf rH nR;obtain⟨d0,d1,d2,d3,d4,d5,mW⟩:=aY.rc;have bT:=aY.own;have aH:w1.heap.size<w3.heap.size:=(by have:=aY.sz;omega);clear mf rH aK;unfold zL.val;go_wp2_with (at_builtin;refine wpList_append_own _ rfl _ _ 244 rfl (w1.heap.size+1) 243 i0 _ 5 64 Tryz.underlying244 hi cQ cz cx rfl (by decide) _ _ _ rfl ((bT.alloc _).alloc _) ⟨w3.heap.size+1,0,none⟩ 1 1 ((xY s p (zX s p bd bs.length)).cells (.slice a3 (xY s p (zX s p bd bs.length)).ae.length DR)) rfl rfl (ztq w3 _ _ _) (zzx _ _ _ _) (by unfold maxLen;omega) (by omega) (by simp;omega) ?_);intro v5 w5 aj aU hne5;clear hne5;obtain⟨a5,ie,rfl⟩:=zD aj;obtain⟨aF,e0,e1,e2,e3,e4,e5,oY⟩:=aY.append (zF po aT) aj aU;have eH:w1.heap.size<w5.heap.size:=(by have:=aF.sz;simp at this;omega);clear aj aU d0 d1 d2 d3 d4 d5 mW bT aY po;go_wp2_with fail;refine (qW s _ _ _ b _ aF.b9 nR hs).mono ?_;rintro e w7 ⟨rfl,ia,lr⟩;have aA:=aF.call ia lr (vS nR);clear ia lr aF e0 e1 e2 e3 e4 e5 oY eH
    cases hm:im s (yG s p (zX s p bd bs.length)).1 (yG s p (zX s p bd bs.length)).2 { data:=#[44] } with
    | true=>
     have bh:=ztr GX hm;have aQ:=zC (zta (zA az) hm);clear hm az;go_wp2_with fail;go_roundg (6-(bs.length+1));exact⟨_,_,_,true,_,rfl,λ _=>by simp;omega,by simp,aA,by rw[List.map_append];exact zA aQ⟩;simp at hg ⊢;omega
    | false=>
     have aQ:=zC (zyl (zA az) hm);clear hm az;go_wp2_with fail;go_roundg 0;exact⟨_,_,_,false,_,rfl,by simp,by simp,aA,by rw[List.map_append];exact zA aQ⟩;simp at hg ⊢;omega
   ·have tb:zX s p bd bs.length=bd:=(by simp[zX,t3]);have Zh:((bs.length:Int)==3)=false:=(by simp;omega);have TB:=zC tb;clear tb t3;go_wp2_with fail;have aK:CL w b w1.heap.size s (zK s pos bad) (.slice a0 (zI s pos bad).fst.length dS) bs p (zX s p bd bs.length) (.slice a1 bs.length kt) wr:=(by rw[zA TB];exact hinv);clear x0 x1 x2 x3 x4 x5 xf;refine (zzv s p (zX s p bd bs.length) b _ aK.b9 b8 hs).mono ?_;rintro e w3 ⟨tv,rfl,mf,rH,nR,po⟩;obtain⟨a3,DR,rfl⟩:=zD po;have aY:=aK.call mf rH nR;obtain⟨d0,d1,d2,d3,d4,d5,mW⟩:=aY.rc;have bT:=aY.own;have aH:w1.heap.size<w3.heap.size:=(by have:=aY.sz;omega);clear mf rH aK;unfold zL.val;go_wp2_with (at_builtin;refine wpList_append_own _ rfl _ _ 244 rfl (w1.heap.size+1) 243 i0 _ 5 64 Tryz.underlying244 hi cQ cz cx rfl (by decide) _ _ _ rfl ((bT.alloc _).alloc _) ⟨w3.heap.size+1,0,none⟩ 1 1 ((xY s p (zX s p bd bs.length)).cells (.slice a3 (xY s p (zX s p bd bs.length)).ae.length DR)) rfl rfl (ztq w3 _ _ _) (zzx _ _ _ _) (by unfold maxLen;omega) (by omega) (by simp;omega) ?_);intro v5 w5 aj aU hne5;clear hne5;obtain⟨a5,ie,rfl⟩:=zD aj;obtain⟨aF,e0,e1,e2,e3,e4,e5,oY⟩:=aY.append (zF po aT) aj aU;have eH:w1.heap.size<w5.heap.size:=(by have:=aF.sz;simp at this;omega);clear aj aU d0 d1 d2 d3 d4 d5 mW bT aY po;go_wp2_with fail;refine (qW s _ _ _ b _ aF.b9 nR hs).mono ?_;rintro e w7 ⟨rfl,ia,lr⟩;have aA:=aF.call ia lr (vS nR);clear ia lr aF e0 e1 e2 e3 e4 e5 oY eH
    cases hm:im s (yG s p (zX s p bd bs.length)).1 (yG s p (zX s p bd bs.length)).2 { data:=#[44] } with
    | true=>
     have bh:=ztr GX hm;have aQ:=zC (zta (zA az) hm);clear hm az;go_wp2_with fail;go_roundg (6-(bs.length+1));exact⟨_,_,_,true,_,rfl,λ _=>by simp;omega,by simp,aA,by rw[List.map_append];exact zA aQ⟩;simp at hg ⊢;omega
    | false=>
     have aQ:=zC (zyl (zA az) hm);clear hm az;go_wp2_with fail;go_roundg 0;exact⟨_,_,_,false,_,rfl,by simp,by simp,aA,by rw[List.map_append];exact zA aQ⟩;simp at hg ⊢;omega
end
end Go.Proofs.YtldkpahaocjdpaaGreat
