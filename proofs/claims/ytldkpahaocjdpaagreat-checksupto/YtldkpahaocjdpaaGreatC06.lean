/-
  Plain: what the reference's parser reads as an atom, a literal, a rule; how its terms lie in memory.
-/
import Derived.Test.YtldkpahaocjdpaaGreatC04
import Derived.Deep.LoopGhost
set_option maxHeartbeats 16000000
set_option maxRecDepth 1000000
namespace Go.Proofs.YtldkpahaocjdpaaGreat
section
open Go.RowKit
structure xK where
 text:B8
 isVar:Bool
 at_:Nat
structure zL where
 pred:B8
 ae:List xK
 no:Bool
 at_:Nat
 ak:Nat
def xK.cells (t:xK):V8:=[.string t.text,.bool t.isVar,.int .i64 t.at_]
abbrev chr (c:UInt8):B8:={ data:=#[c] }
def zR (s:B8)(pos:Nat)(bad:Int)(n:Nat):Int:=
 if ((tok s pos).kind != 110&&(tok s pos).kind != 118)||n==4 then zab s pos bad else bad
def yD (s:B8)(pos:Nat):xK:=⟨(tok s pos).text,(tok s pos).kind==118,(tok s pos).at_⟩
def j9 (s:B8):Nat->Nat->Int->List xK->List xK × Nat × Int
 | 0,pos,bad,l=>(l,pos,bad)
 | f+1,pos,bad,l=>
  let bad1:=zR s pos bad l.length
  let pos2:=zW s pos bad1
  let bad2:=zT s pos bad1
  let pos3:=vA s pos2 bad2 (chr 44)
  let bad3:=vM s pos2 bad2 (chr 44)
  if im s pos2 bad2 (chr 44) then j9 s f pos3 bad3 (l++[yD s pos])
  else (l++[yD s pos],zW s pos3 (xQ s pos3 bad3 (chr 41)),zT s pos3 (xQ s pos3 bad3 (chr 41)))
def yB (s:B8)(pos:Nat)(bad:Int):Int:=if (tok s pos).kind != 110 then zab s pos bad else bad
def zcl (s:B8)(pos:Nat)(bad:Int):Nat:=zW s pos (yB s pos bad)
def qT (s:B8)(pos:Nat)(bad:Int):Int:=zT s pos (yB s pos bad)
def zI (s:B8)(pos:Nat)(bad:Int):List xK × Nat × Int:=
 if im s (zcl s pos bad) (qT s pos bad) (chr 40) then
  j9 s 5 (vA s (zcl s pos bad) (qT s pos bad) (chr 40)) (vM s (zcl s pos bad) (qT s pos bad) (chr 40)) []
 else ([],vA s (zcl s pos bad) (qT s pos bad) (chr 40),vM s (zcl s pos bad) (qT s pos bad) (chr 40))
variable {wd s:B8} {bad:Int} {pos:Nat}
theorem zzk (h:im s pos bad wd=true):bad<0:=by
 unfold im at h;simp at h;exact h.1
theorem jH (h:0<=bad):0<=zT s pos bad:=by
 unfold zT;split
 ·exact jT _ _ _
 ·exact h
theorem vS (h:pos<=s.size):vA s pos bad wd<=s.size:=by
 unfold vA;split
 ·exact zS s pos bad h
 ·exact h
theorem yah:im s (zW s pos (zR s pos bad 4)) (zT s pos (zR s pos bad 4)) wd=false:=by
 cases h:im s (zW s pos (zR s pos bad 4)) (zT s pos (zR s pos bad 4)) wd with
 | false=>rfl
 | true=>
  have h1:=zzk h;have h2:0<=zR s pos bad 4:=by simp[zR];exact jT _ _ _
  have h3:=jH (s:=s) (pos:=pos) h2;omega
structure CN (w:W8)(n:Nat)(pred:B8)(v:Value)(no:Bool)(at_ ak:Nat):Prop where
 c0:w.cell? ⟨n,0,none⟩=some (.string pred)
 c1:w.cell? ⟨n,1,none⟩=some v
 c2:w.cell? ⟨n,2,none⟩=some (.bool no)
 c3:w.cell? ⟨n,3,none⟩=some (.int .i64 at_)
 c4:w.cell? ⟨n,4,none⟩=some (.int .i64 ak)
 fz:∀ o,w.frozen? ⟨n,o,none⟩=false
variable {v:Value} {n:Nat} {w w':W8} {B:List Nat}
theorem CN.kept {pred:B8}{no:Bool}{at_ ak:Nat}(h:CN w n pred v no at_ ak)(k:zN B w w')(aG:n<w.heap.size)(hn:n∉B):CN w' n pred v no at_ ak:=
 ⟨(k.cell aG hn).trans h.c0,(k.cell aG hn).trans h.c1,(k.cell aG hn).trans h.c2,(k.cell aG hn).trans h.c3,(k.cell aG hn).trans h.c4,λ o=>(k.frozen aG hn).trans (h.fz o)⟩
variable {row:Option Nat}
theorem zN.grown {a:W8}(h:zN B a w)(hg:w.grownBy w' row)(hr:∀ k,row=some k->a.heap.size<=k\/k∈B):zN B a w':=
 ⟨hg.os.trans h.os,hg.tape.trans h.tape,hg.output.trans h.output,Nat.le_trans h.size hg.size,λ k hk hn=>(hg.block k (Nat.lt_of_lt_of_le hk h.size) (λ e=>by rcases hr k e.symm with h1 | h1;omega;exact hn h1)).trans (h.block k hk hn)⟩
theorem zN.aN (hg:w.grownBy w' row):zN row.toList w w':=
 (zN.refl _ _).grown hg (λ k e=>.inr (by simp[e]))
variable {xs:V8} {size base:Nat} {e:TypeId}
theorem yM (h:w.ownsRow base e size v n xs)(k:zN B w w')(hB:∀ x∈B,x<base):w'.ownsRow base e size v n xs:=by
 refine⟨h.1,?_⟩;rcases h.2 with hn | ⟨g,cap,cur,rfl,hb,dI,rest⟩
 ·exact .inl hn
 ·refine .inr ⟨g,cap,cur,rfl,hb,?_,rest⟩;rw[k.block g (Array.getElem?_eq_some_iff.1 dI).1 (λ hm=>by have:=hB g hm;omega)];exact dI
def cellsOf (l:List xK):V8:=l.flatMap xK.cells
theorem zii (l:List xK)(t:xK):cellsOf (l++[t])=cellsOf l++t.cells:=by simp[cellsOf]
structure qV (w:W8)(b:Nat)(s text:B8)(at_:Nat)(l:List xK)(p:Nat)(bd:Int)(v:Value)(wr:W8):Prop where
 b9:ib wr b s p bd
 hp:p<=s.size
 kept:zN [b] w wr
 ac:CN wr (w.heap.size+1) text v false at_ 0
 rc:CN wr w.heap.size { data:=#[] } (.slice none 0 0) false 0 0
 sz:w.heap.size+2<=wr.heap.size
 own:wr.ownsRow (w.heap.size+2) 317 3 v l.length (cellsOf l)
 blt:b<w.heap.size
variable {wr w1:W8} {bd:Int} {p b:Nat} {l:List xK}
theorem qV.call {text:B8}{at_ p':Nat}{E1:Int}(h:qV w b s text at_ l p bd v wr)(k:zN [b] wr w1)(hp:ib w1 b s p' E1)(hl:p'<=s.size):qV w b s text at_ l p' E1 v w1:=
 have aG:=h.blt;have aT:=h.sz
 ⟨hp,hl,h.kept.trans k,h.ac.kept k (by omega) (by simp;omega),h.rc.kept k (by omega) (by simp;omega),Nat.le_trans h.sz k.size,yM h.own k (by simp;omega),h.blt⟩
theorem qV.append {text:B8}{at_:Nat}{w5:W8}(h:qV w b s text at_ l p bd v w1){o1 o2:Obj}{v':Value}(t:xK)
  (aC:w5.ownsRow (w.heap.size+2) 317 3 v' (l.length+1) (cellsOf l++t.cells)) (hg:((w1.alloc o1).alloc o2).grownBy w5 v.ownBlock):
  qV w b s text at_ (l++[t]) p bd v' (w5.setCell ⟨w.heap.size+1,1,none⟩ v')/\CN w5 (w.heap.size+1) text v false at_ 0:=by
 have aG:=h.blt;have aT:=h.sz;have aB:∀ k,v.ownBlock=some k->w.heap.size+2<=k:=λ k e=>(h.own.lt k e).1
 have k5:zN v.ownBlock.toList w1 w5:=(((zN.refl _ w1).alloc o1).alloc o2).grown hg (λ k e=>.inr (by simp[e]));have lJ:∀ k,k<w.heap.size+2->k∉v.ownBlock.toList:=by
  intro k hk hm
  cases hv:v.ownBlock with
  | none=>simp[hv] at hm
  | some x=>simp[hv] at hm;have:=aB x hv;omega
 have a5:=h.ac.kept k5 (by omega) (lJ _ (by omega));refine⟨⟨?_,h.hp,?_,?_,?_,?_,?_,h.blt⟩,a5⟩
 ·exact (h.b9.kept k5 (lJ _ (by omega))).kept ((zN.refl [w.heap.size+1] _).setCell (by simp) _) (by simp;omega)
 ·exact ((((h.kept.alloc o1).alloc o2).grown hg (λ k e=>.inl (by have:=aB k e;omega)))).setCell (.inr (by simp)) _
 ·obtain⟨x0,x1,x2,x3,x4,xf⟩:=a5;exact⟨by go_simp,by go_simp,by go_simp,by go_simp,by go_simp,by go_simp⟩
 ·exact (h.rc.kept k5 (by omega) (lJ _ (by omega))).kept ((zN.refl [w.heap.size+1] _).setCell (by simp) _) (by have:=k5.size;omega) (by simp)
 ·have:=k5.size;simp;omega
 ·rw[zii,List.length_append];exact ownsRow_setCell_below aC (by simp) _
theorem zkt (s:B8)(p:Nat)(bd:Int)(l:List xK)(h:l.length<=4):j9 s (5-l.length) p bd l =
  if im s (zW s p (zR s p bd l.length)) (zT s p (zR s p bd l.length)) { data:=#[44] } then
   j9 s (5-(l++[yD s p]).length) (vA s (zW s p (zR s p bd l.length)) (zT s p (zR s p bd l.length)) { data:=#[44] }) (vM s (zW s p (zR s p bd l.length)) (zT s p (zR s p bd l.length)) { data:=#[44] }) (l++[yD s p])
  else (l++[yD s p],zW s (vA s (zW s p (zR s p bd l.length)) (zT s p (zR s p bd l.length)) { data:=#[44] }) (xQ s (vA s (zW s p (zR s p bd l.length)) (zT s p (zR s p bd l.length)) { data:=#[44] }) (vM s (zW s p (zR s p bd l.length)) (zT s p (zR s p bd l.length)) { data:=#[44] }) { data:=#[41] }),zT s (vA s (zW s p (zR s p bd l.length)) (zT s p (zR s p bd l.length)) { data:=#[44] }) (xQ s (vA s (zW s p (zR s p bd l.length)) (zT s p (zR s p bd l.length)) { data:=#[44] }) (vM s (zW s p (zR s p bd l.length)) (zT s p (zR s p bd l.length)) { data:=#[44] }) { data:=#[41] })):=by
 have e1:5-l.length=(4-l.length)+1:=by omega
 have e2:5-(l++[yD s p]).length=4-l.length:=by simp
 rw[e1,e2,j9]
theorem zD (h:w.ownsRow base e size v n xs):∃ a cap,v=.slice a n cap:=by
 rcases h.2 with⟨rfl,rfl⟩ | ⟨g,cap,cur,rfl,_⟩
 ·exact⟨none,0,rfl⟩
 ·exact⟨_,_,rfl⟩
theorem zpg (s:B8)(p:Nat)(bd:Int)(l:List xK):(((tok s p).kind != 110)=true/\((tok s p).kind != 118)=true/\zR s p bd l.length=zab s p bd) \/
  (((tok s p).kind != 110)=false/\((l.length:Int)==4)=true/\zR s p bd l.length=zab s p bd) \/
  (((tok s p).kind != 110)=true/\((tok s p).kind != 118)=false/\((l.length:Int)==4)=true/\zR s p bd l.length=zab s p bd) \/
  (((tok s p).kind != 110)=false/\((l.length:Int)==4)=false/\zR s p bd l.length=bd) \/
  (((tok s p).kind != 110)=true/\((tok s p).kind != 118)=false/\((l.length:Int)==4)=false/\zR s p bd l.length=bd):=by
 have e:((l.length:Int)==4)=(l.length==4):=by
  rw[Bool.eq_iff_iff];simp;omega
 rw[e];unfold zR
 cases (tok s p).kind != 110 <;> cases (tok s p).kind != 118 <;> cases l.length==4 <;> simp
theorem zc0 (h4:l.length<=4)(h:im s (zW s p (zR s p bd l.length)) (zT s p (zR s p bd l.length)) wd=true):l.length+1<=4:=by
 rcases Nat.lt_or_ge l.length 4 with h1 | h1
 ·omega
 ·have e:l.length=4:=by omega
  rw[e,yah] at h
  cases h
theorem z41 {u0 u1 u2 u3 u4:Value}(h0:w1.cell? ⟨n,0,none⟩=some u0)(h1:w1.cell? ⟨n,1,none⟩=some u1)(h2:w1.cell? ⟨n,2,none⟩=some u2)(h3:w1.cell? ⟨n,3,none⟩=some u3)(h4:w1.cell? ⟨n,4,none⟩=some u4)(v0 v1 v2 v3 v4:Value):
  (((((w1.setCell ⟨n,0,none⟩ v0).setCell ⟨n,1,none⟩ v1).setCell ⟨n,2,none⟩ v2).setCell ⟨n,3,none⟩ v3).setCell ⟨n,4,none⟩ v4).cell? ⟨n,0,none⟩=some v0 /\
  (((((w1.setCell ⟨n,0,none⟩ v0).setCell ⟨n,1,none⟩ v1).setCell ⟨n,2,none⟩ v2).setCell ⟨n,3,none⟩ v3).setCell ⟨n,4,none⟩ v4).cell? ⟨n,1,none⟩=some v1 /\
  (((((w1.setCell ⟨n,0,none⟩ v0).setCell ⟨n,1,none⟩ v1).setCell ⟨n,2,none⟩ v2).setCell ⟨n,3,none⟩ v3).setCell ⟨n,4,none⟩ v4).cell? ⟨n,2,none⟩=some v2 /\
  (((((w1.setCell ⟨n,0,none⟩ v0).setCell ⟨n,1,none⟩ v1).setCell ⟨n,2,none⟩ v2).setCell ⟨n,3,none⟩ v3).setCell ⟨n,4,none⟩ v4).cell? ⟨n,3,none⟩=some v3 /\
  (((((w1.setCell ⟨n,0,none⟩ v0).setCell ⟨n,1,none⟩ v1).setCell ⟨n,2,none⟩ v2).setCell ⟨n,3,none⟩ v3).setCell ⟨n,4,none⟩ v4).cell? ⟨n,4,none⟩=some v4:=by
 refine⟨?_,?_,?_,?_,?_⟩ <;> go_simp
theorem znh (w1:W8)(n:Nat)(v0 v1 v2 v3 v4:Value):zN [n] w1 (((((w1.setCell ⟨n,0,none⟩ v0).setCell ⟨n,1,none⟩ v1).setCell ⟨n,2,none⟩ v2).setCell ⟨n,3,none⟩ v3).setCell ⟨n,4,none⟩ v4):=
 (((((zN.refl [n] w1).setCell (by simp) _).setCell (by simp) _).setCell (by simp) _).setCell (by simp) _).setCell (by simp) _
theorem zF {base':Nat}(h:w.ownsRow base e size v n xs)(hb:base'<=base):w.ownsRow base' e size v n xs:=by
 refine⟨h.1,?_⟩;rcases h.2 with hn | ⟨g,cap,cur,rfl,kH,rest⟩
 ·exact .inl hn
 ·exact .inr ⟨g,cap,cur,rfl,by omega,rest⟩
theorem qV.ends {text:B8}{at_:Nat}(h:qV w b s text at_ l p bd v wr)(k:zN [w.heap.size] wr w'):
  zN [b] w w'/\ib w' b s p bd/\p<=s.size/\w'.ownsRow w.heap.size 317 3 v l.length (cellsOf l):=by
 have aG:=h.blt;refine⟨⟨k.os.trans h.kept.os,k.tape.trans h.kept.tape,k.output.trans h.kept.output,Nat.le_trans h.kept.size k.size,λ i hi hn=>(k.block i (Nat.lt_of_lt_of_le hi h.kept.size) (by simp;omega)).trans (h.kept.block i hi hn)⟩,h.b9.kept k (by simp;omega),h.hp,zF (yM h.own k (by simp)) (by omega)⟩
end
section
open Go.RowKit
theorem znf:(Tryz.prog.info? 317).map (λ i=>(i.zero,i.size,i.bytes))=some (some (.agg #[.string { data:=#[] },.bool false,.int .i64 0]),3,32):=by kernel_rfl
theorem zy2 (x y z:Value)(w:W8):Sem.run Tryz.prog (Instr.field 233 (.agg #[x,y,z]) 1) w=.ok y w:=by kernel_rfl
theorem qS (w1:W8)(o:Obj)(t:xK)(j:Nat)(u:Value)(h:t.cells[j]?=some u):((w1.alloc o).alloc (Obj.cells #[.string t.text,.bool t.isVar,.int IntKind.i64 ↑t.at_] 317)).cell? ((⟨w1.heap.size+1,0,none⟩:Addr).add j)=some u:=by
 have e:(⟨w1.heap.size+1,0,none⟩:Addr).add j=⟨w1.heap.size+1,j,none⟩:=by unfold Addr.add;split <;> simp_all
 rw[e,World.cell?_alloc_at _ _ _ _ (by simp)];simpa[xK.cells] using h
theorem za8 (t:xK):∀ u∈t.cells,u.oneCell'=true:=by
 intro u hu;simp[xK.cells] at hu;rcases hu with rfl | rfl | rfl <;> rfl
theorem zlf {s:B8}{pos b:Nat}{w w1 w2:W8}{p3:Nat}{b3:Int}(aG:b<w.heap.size)(rH:p3<=s.size)
  (bg:zN [b] ((w.alloc (Obj.cells #[.string { data:=#[] },.slice none 0 0,.bool false,.int IntKind.i64 0,.int IntKind.i64 0] 243)).alloc (Obj.cells #[.string { data:=#[] },.slice none 0 0,.bool false,.int IntKind.i64 ↑(tok s pos).at_,.int IntKind.i64 0] 243)) w1)
  (cy:zN [b] (w1.setCell ⟨w.heap.size+1,0,none⟩ (.string (tok s pos).text)) w2) (iX:ib w2 b s p3 b3):qV w b s (tok s pos).text (tok s pos).at_ [] p3 b3 (.slice none 0 0) w2:=by
 have cz:=bg.size;have cx:=cy.size;simp at cz cx;have hx:zN [b] w w2:=(((((zN.refl [b] w).alloc _).alloc _).trans bg).setCell (.inr (by simp)) _).trans cy;refine⟨iX,rH,hx,?_,?_,by omega,World.ownsRow_nil _ _ _ _,aG⟩
 ·have a1:CN w1 (w.heap.size+1) { data:=#[] } (.slice none 0 0) false (tok s pos).at_ 0:=by
   refine CN.kept ⟨?_,?_,?_,?_,?_,?_⟩ bg (by simp) (by simp;omega)
   all_goals first | (rw[World.cell?_alloc_at _ _ _ _ (by simp)];rfl) | (intro o;rw[World.frozen?_alloc_at _ _ _ _ (by simp)])
  have a2:CN (w1.setCell ⟨w.heap.size+1,0,none⟩ (.string (tok s pos).text)) (w.heap.size+1) (tok s pos).text (.slice none 0 0) false (tok s pos).at_ 0:=by
   obtain⟨x0,x1,x2,x3,x4,xf⟩:=a1;exact⟨by go_simp,by go_simp,by go_simp,by go_simp,by go_simp,by go_simp⟩
  exact a2.kept cy (by simp;omega) (by simp;omega)
 ·have a1:CN w1 w.heap.size { data:=#[] } (.slice none 0 0) false 0 0:=by
   refine CN.kept ⟨?_,?_,?_,?_,?_,?_⟩ bg (by simp;omega) (by simp;omega)
   all_goals first | (rw[World.cell?_alloc_past _ _ _ (by simp),World.cell?_alloc_at _ _ _ _ rfl];rfl) | (intro o;rw[World.frozen?_alloc_past _ _ _ (by simp),World.frozen?_alloc_at _ _ _ _ rfl])
  exact (a1.kept ((zN.refl [w.heap.size+1] _).setCell (by simp) _) (by omega) (by simp)).kept cy (by simp;omega) (by simp;omega)
end
section
open Go.RowKit
theorem zyd (s:B8)(pos:Nat)(bad:Int)(b:Nat)(w:W8)(h:ib w b s pos bad)(aI:pos<=s.size)(hs:s.size<=maxLen)(ph:((tok s pos).kind != 110)=false):
  Calls Tryz.prog 184 #[.pointer (some ⟨b,0,none⟩)] w λ e w'=>∃ v,e=.returned (.agg #[.string (tok s pos).text,v,.bool false,.int .i64 (tok s pos).at_,.int .i64 0])/\zN [b] w w'/\ib w' b s (zI s pos bad).2.1 (zI s pos bad).2.2/\(zI s pos bad).2.1<=s.size/\w'.ownsRow w.heap.size 317 3 v (zI s pos bad).1.length (cellsOf (zI s pos bad).1):=by
 obtain⟨i0,hi,cQ,cz,cx⟩:=info_parts znf;have f93:=zy2;have h':=h;obtain⟨aG,c0,c1,c2,c3,c4,c5,fz⟩:=h;have hB:yB s pos bad=bad:=by simp[yB,ph]
 go_enter Tryz.func184,Tryz.ntmps184;have HB:=zC hB;clear hB;go_wp2_with fail;have Ys:ib ((w.alloc (Obj.cells #[.string { data:=#[] },.slice none 0 0,.bool false,.int IntKind.i64 0,.int IntKind.i64 0] 243)).alloc (Obj.cells #[.string { data:=#[] },.slice none 0 0,.bool false,.int IntKind.i64 ↑(tok s pos).at_,.int IntKind.i64 0] 243)) b s pos (yB s pos bad):=by
  rw[zA HB];exact h'.kept (((zN.refl [] _).alloc _).alloc _) (by simp)
 refine (jL s pos (yB s pos bad) b _ Ys aI hs).mono ?_;rintro e w1 ⟨rfl,bg,cF⟩;unfold vC;obtain⟨r1,r2⟩:=bg.rules;have hz:w.heap.size+1<w1.heap.size:=by have:=bg.size;simp at this;omega
 go_wp2_with fail;clear f93;refine (qW s _ _ _ b _ (cF.kept ((zN.refl [w.heap.size+1] _).setCell (by simp) _) (by simp;omega)) (zS _ _ _ aI) hs).mono ?_;rintro e w2 ⟨rfl,cy,iX⟩;have aP:=zlf aG (vS (zS _ _ _ aI)) bg cy iX;have tQ:zI s pos bad=if im s (zW s pos (yB s pos bad)) (zT s pos (yB s pos bad)) { data:=#[40] } then j9 s 5 (vA s (zW s pos (yB s pos bad)) (zT s pos (yB s pos bad)) { data:=#[40] }) (vM s (zW s pos (yB s pos bad)) (zT s pos (yB s pos bad)) { data:=#[40] }) [] else ([],vA s (zW s pos (yB s pos bad)) (zT s pos (yB s pos bad)) { data:=#[40] },vM s (zW s pos (yB s pos bad)) (zT s pos (yB s pos bad)) { data:=#[40] }):=rfl;clear bg cy cF iX r1 r2 c0 c1 c2 c3 c4 c5 fz h' HB ph hz;generalize vA s (zW s pos (yB s pos bad)) (zT s pos (yB s pos bad)) { data:=#[40] }=p3 at *;generalize vM s (zW s pos (yB s pos bad)) (zT s pos (yB s pos bad)) { data:=#[40] }=b3 at *;generalize im s (zW s pos (yB s pos bad)) (zT s pos (yB s pos bad)) { data:=#[40] }=o3 at *;have HR:=zC tQ;clear tQ;go_wp2_with fail
 go_loopg [4] 7 (λ g op wr=>∃ (l:List xK) (p:Nat) (bd:Int) (o:Bool) (v:Value),op=.bool o/\(o=true->l.length<=4)/\(if o then 7-l.length else 0)<=g/\qV w b s (tok s pos).text (tok s pos).at_ l p bd v wr/\zI s pos bad=(if o then j9 s (5-l.length) p bd l else (l,p,bd)))
 exact⟨[],p3,b3,o3,_,rfl,by simp,by split <;> simp,aP,zA HR⟩
 case round=>
  clear HR aP;obtain⟨l,p,bd,o,v,rfl,Fo,hg,hinv,ax⟩:=hrel;have HF:=zC ax;clear ax;obtain⟨a0,dS,rfl⟩:=zD hinv.own;have vm:=hinv.b9;have b8:=hinv.hp;have aT:=hinv.sz
  cases o with
  | false=>
   obtain⟨x0,x1,x2,x3,x4,xf⟩:=hinv.ac;obtain⟨y0,y1,y2,y3,y4,yf⟩:=hinv.rc;clear Fo;go_wp2_with fail;obtain⟨q0,q1,q2,q3,q4⟩:=z41 y0 y1 y2 y3 y4 (.string (tok s pos).text) (.slice a0 l.length dS) (.bool false) (.int .i64 (tok s pos).at_) (.int .i64 0);have vd:=hinv.ends (znh wr w.heap.size (.string (tok s pos).text) (.slice a0 l.length dS) (.bool false) (.int .i64 (tok s pos).at_) (.int .i64 0));have hF:zI s pos bad=(l,p,bd):=zA HF;refine bodyPost_ret (v:=.agg #[.string (tok s pos).text,.slice a0 l.length dS,.bool false,.int .i64 (tok s pos).at_,.int .i64 0]) (by simp[results,Tryz.results184,go_sem,q0,q1,q2,q3,q4]) rfl ⟨.slice a0 l.length dS,rfl,?_⟩;rw[hF];exact vd
  | true=>
   have nD:l.length<=4:=Fo rfl;clear Fo;have aP:=zkt s p bd l nD;have az:=zC ((zA HF).trans aP);clear HF aP;have Qs:(l.length:Int)<=4:=(by omega);obtain⟨G1,c0,c1,c2,c3,c4,c5,fz⟩:=hinv.b9;obtain⟨x0,x1,x2,x3,x4,xf⟩:=hinv.ac;have Gj:(((tok s p).kind != 110)=true/\((tok s p).kind != 118)=true/\zR s p bd l.length=zab s p bd) \/
     (((tok s p).kind != 110)=false/\((l.length:Int)==4)=true/\zR s p bd l.length=zab s p bd) \/
     (((tok s p).kind != 110)=true/\((tok s p).kind != 118)=false/\((l.length:Int)==4)=true/\zR s p bd l.length=zab s p bd) \/
     (((tok s p).kind != 110)=false/\((l.length:Int)==4)=false/\zR s p bd l.length=bd) \/
     (((tok s p).kind != 110)=true/\((tok s p).kind != 118)=false/\((l.length:Int)==4)=false/\zR s p bd l.length=bd):=zpg s p bd l
   rcases Gj with⟨t1,t2,tb⟩ | ⟨t1,t2,tb⟩ | ⟨t1,t2,t3,tb⟩ | ⟨t1,t2,tb⟩ | ⟨t1,t2,t3,tb⟩
   ·skip
    have TB:=zC tb;clear tb;go_wp2_with fail;refine (zai s p bd b _ vm).mono ?_;rintro e w0 ⟨rfl,iW,lp⟩;rw[<-zA TB] at lp;have aK:=hinv.call iW lp b8;clear iW lp c0 c1 c2 c3 c4 c5 fz x0 x1 x2 x3 x4 xf;go_wp2_with fail;refine (jL s p (zR s p bd l.length) b _ aK.b9 b8 hs).mono ?_;rintro e w1 ⟨rfl,bg,cF⟩;unfold vC;have aD:=aK.call bg cF (zS _ _ _ b8);have aH:w.heap.size+1<w1.heap.size:=(by have:=aD.sz;omega);obtain⟨d0,d1,d2,d3,d4,mW⟩:=aD.ac;have aS:=aD.own;clear bg cF aK;go_wp2_with (at_builtin;refine wpList_append_own _ rfl _ _ 241 rfl (w.heap.size+2) 317 i0 _ 3 32 Tryz.underlying241 hi cQ cz cx rfl (by decide) _ _ _ rfl ((aS.alloc _).alloc _) ⟨w1.heap.size+1,0,none⟩ 1 1 (yD s p).cells rfl rfl (qS w1 _ (yD s p)) (za8 _) (by unfold maxLen;omega) (by omega) (by simp;omega) ?_);intro v5 w5 aj aU hne5;clear hne5;obtain⟨a5,ie,rfl⟩:=zD aj;obtain⟨aF,e0,e1,e2,e3,e4,oY⟩:=aD.append (yD s p) aj aU;have eH:w.heap.size+1<w5.heap.size:=(by have:=aF.sz;simp at this;omega);clear aj aU d0 d1 d2 d3 d4 mW aS aD;go_wp2_with fail;refine (qW s _ _ _ b _ aF.b9 (zS _ _ _ b8) hs).mono ?_;rintro e w7 ⟨rfl,ia,lr⟩;have aA:=aF.call ia lr (vS (zS _ _ _ b8));clear ia lr aF e0 e1 e2 e3 e4 oY eH
    cases hm:im s (zW s p (zR s p bd l.length)) (zT s p (zR s p bd l.length)) { data:=#[44] } with
    | true=>
     have aQ:=zC ((zA az).trans (if_pos hm));have bh:=zc0 nD hm;clear hm az;go_wp2_with fail;go_roundg (7-(l++[yD s p]).length);exact⟨l++[yD s p],_,_,true,_,rfl,λ _=>by simp;omega,by simp,aA,zA aQ⟩;simp at hg ⊢;omega
    | false=>
     have aQ:=zC ((zA az).trans (if_neg (by rw[hm];decide)));clear hm az;go_wp2_with fail;refine (zaq s _ _ _ b _ aA.b9 aA.hp hs).mono ?_;rintro e w8 ⟨rfl,kn,kx⟩;have cU:=aA.call kn kx (zS _ _ _ aA.hp);clear kn kx aA;go_wp2_with fail;go_roundg 0;exact⟨l++[yD s p],_,_,false,_,rfl,by simp,by simp,cU,zA aQ⟩;simp at hg ⊢;omega
   ·skip
    have TB:=zC tb;clear tb;go_wp2_with fail;refine (zai s p bd b _ vm).mono ?_;rintro e w0 ⟨rfl,iW,lp⟩;rw[<-zA TB] at lp;have aK:=hinv.call iW lp b8;clear iW lp c0 c1 c2 c3 c4 c5 fz x0 x1 x2 x3 x4 xf;go_wp2_with fail;refine (jL s p (zR s p bd l.length) b _ aK.b9 b8 hs).mono ?_;rintro e w1 ⟨rfl,bg,cF⟩;unfold vC;have aD:=aK.call bg cF (zS _ _ _ b8);have aH:w.heap.size+1<w1.heap.size:=(by have:=aD.sz;omega);obtain⟨d0,d1,d2,d3,d4,mW⟩:=aD.ac;have aS:=aD.own;clear bg cF aK;go_wp2_with (at_builtin;refine wpList_append_own _ rfl _ _ 241 rfl (w.heap.size+2) 317 i0 _ 3 32 Tryz.underlying241 hi cQ cz cx rfl (by decide) _ _ _ rfl ((aS.alloc _).alloc _) ⟨w1.heap.size+1,0,none⟩ 1 1 (yD s p).cells rfl rfl (qS w1 _ (yD s p)) (za8 _) (by unfold maxLen;omega) (by omega) (by simp;omega) ?_);intro v5 w5 aj aU hne5;clear hne5;obtain⟨a5,ie,rfl⟩:=zD aj;obtain⟨aF,e0,e1,e2,e3,e4,oY⟩:=aD.append (yD s p) aj aU;have eH:w.heap.size+1<w5.heap.size:=(by have:=aF.sz;simp at this;omega);clear aj aU d0 d1 d2 d3 d4 mW aS aD;go_wp2_with fail;refine (qW s _ _ _ b _ aF.b9 (zS _ _ _ b8) hs).mono ?_;rintro e w7 ⟨rfl,ia,lr⟩;have aA:=aF.call ia lr (vS (zS _ _ _ b8));clear ia lr aF e0 e1 e2 e3 e4 oY eH
    cases hm:im s (zW s p (zR s p bd l.length)) (zT s p (zR s p bd l.length)) { data:=#[44] } with
    | true=>
     have aQ:=zC ((zA az).trans (if_pos hm));have bh:=zc0 nD hm;clear hm az;go_wp2_with fail;go_roundg (7-(l++[yD s p]).length);exact⟨l++[yD s p],_,_,true,_,rfl,λ _=>by simp;omega,by simp,aA,zA aQ⟩;simp at hg ⊢;omega
    | false=>
     have aQ:=zC ((zA az).trans (if_neg (by rw[hm];decide)));clear hm az;go_wp2_with fail;refine (zaq s _ _ _ b _ aA.b9 aA.hp hs).mono ?_;rintro e w8 ⟨rfl,kn,kx⟩;have cU:=aA.call kn kx (zS _ _ _ aA.hp);clear kn kx aA;go_wp2_with fail;go_roundg 0;exact⟨l++[yD s p],_,_,false,_,rfl,by simp,by simp,cU,zA aQ⟩;simp at hg ⊢;omega
   ·skip
    have TB:=zC tb;clear tb;go_wp2_with fail;refine (zai s p bd b _ vm).mono ?_;rintro e w0 ⟨rfl,iW,lp⟩;rw[<-zA TB] at lp;have aK:=hinv.call iW lp b8;clear iW lp c0 c1 c2 c3 c4 c5 fz x0 x1 x2 x3 x4 xf;go_wp2_with fail;refine (jL s p (zR s p bd l.length) b _ aK.b9 b8 hs).mono ?_;rintro e w1 ⟨rfl,bg,cF⟩;unfold vC;have aD:=aK.call bg cF (zS _ _ _ b8);have aH:w.heap.size+1<w1.heap.size:=(by have:=aD.sz;omega);obtain⟨d0,d1,d2,d3,d4,mW⟩:=aD.ac;have aS:=aD.own;clear bg cF aK;go_wp2_with (at_builtin;refine wpList_append_own _ rfl _ _ 241 rfl (w.heap.size+2) 317 i0 _ 3 32 Tryz.underlying241 hi cQ cz cx rfl (by decide) _ _ _ rfl ((aS.alloc _).alloc _) ⟨w1.heap.size+1,0,none⟩ 1 1 (yD s p).cells rfl rfl (qS w1 _ (yD s p)) (za8 _) (by unfold maxLen;omega) (by omega) (by simp;omega) ?_);intro v5 w5 aj aU hne5;clear hne5;obtain⟨a5,ie,rfl⟩:=zD aj;obtain⟨aF,e0,e1,e2,e3,e4,oY⟩:=aD.append (yD s p) aj aU;have eH:w.heap.size+1<w5.heap.size:=(by have:=aF.sz;simp at this;omega);clear aj aU d0 d1 d2 d3 d4 mW aS aD;go_wp2_with fail;refine (qW s _ _ _ b _ aF.b9 (zS _ _ _ b8) hs).mono ?_;rintro e w7 ⟨rfl,ia,lr⟩;have aA:=aF.call ia lr (vS (zS _ _ _ b8));clear ia lr aF e0 e1 e2 e3 e4 oY eH
    cases hm:im s (zW s p (zR s p bd l.length)) (zT s p (zR s p bd l.length)) { data:=#[44] } with
    | true=>
     have aQ:=zC ((zA az).trans (if_pos hm));have bh:=zc0 nD hm;clear hm az;go_wp2_with fail;go_roundg (7-(l++[yD s p]).length);exact⟨l++[yD s p],_,_,true,_,rfl,λ _=>by simp;omega,by simp,aA,zA aQ⟩;simp at hg ⊢;omega
    | false=>
     have aQ:=zC ((zA az).trans (if_neg (by rw[hm];decide)));clear hm az;go_wp2_with fail;refine (zaq s _ _ _ b _ aA.b9 aA.hp hs).mono ?_;rintro e w8 ⟨rfl,kn,kx⟩;have cU:=aA.call kn kx (zS _ _ _ aA.hp);clear kn kx aA;go_wp2_with fail;go_roundg 0;exact⟨l++[yD s p],_,_,false,_,rfl,by simp,by simp,cU,zA aQ⟩;simp at hg ⊢;omega
   ·skip
    have TB:=zC tb;clear tb;go_wp2_with fail;have aK:qV w b s (tok s pos).text (tok s pos).at_ l p (zR s p bd l.length) (.slice a0 l.length dS) wr:=(by rw[zA TB];exact hinv);clear c0 c1 c2 c3 c4 c5 fz x0 x1 x2 x3 x4 xf;refine (jL s p (zR s p bd l.length) b _ aK.b9 b8 hs).mono ?_;rintro e w1 ⟨rfl,bg,cF⟩;unfold vC;have aD:=aK.call bg cF (zS _ _ _ b8);have aH:w.heap.size+1<w1.heap.size:=(by have:=aD.sz;omega);obtain⟨d0,d1,d2,d3,d4,mW⟩:=aD.ac;have aS:=aD.own;clear bg cF aK;go_wp2_with (at_builtin;refine wpList_append_own _ rfl _ _ 241 rfl (w.heap.size+2) 317 i0 _ 3 32 Tryz.underlying241 hi cQ cz cx rfl (by decide) _ _ _ rfl ((aS.alloc _).alloc _) ⟨w1.heap.size+1,0,none⟩ 1 1 (yD s p).cells rfl rfl (qS w1 _ (yD s p)) (za8 _) (by unfold maxLen;omega) (by omega) (by simp;omega) ?_);intro v5 w5 aj aU hne5;clear hne5;obtain⟨a5,ie,rfl⟩:=zD aj;obtain⟨aF,e0,e1,e2,e3,e4,oY⟩:=aD.append (yD s p) aj aU;have eH:w.heap.size+1<w5.heap.size:=(by have:=aF.sz;simp at this;omega);clear aj aU d0 d1 d2 d3 d4 mW aS aD;go_wp2_with fail;refine (qW s _ _ _ b _ aF.b9 (zS _ _ _ b8) hs).mono ?_;rintro e w7 ⟨rfl,ia,lr⟩;have aA:=aF.call ia lr (vS (zS _ _ _ b8));clear ia lr aF e0 e1 e2 e3 e4 oY eH
    cases hm:im s (zW s p (zR s p bd l.length)) (zT s p (zR s p bd l.length)) { data:=#[44] } with
    | true=>
     have aQ:=zC ((zA az).trans (if_pos hm));have bh:=zc0 nD hm;clear hm az;go_wp2_with fail;go_roundg (7-(l++[yD s p]).length);exact⟨l++[yD s p],_,_,true,_,rfl,λ _=>by simp;omega,by simp,aA,zA aQ⟩;simp at hg ⊢;omega
    | false=>
     have aQ:=zC ((zA az).trans (if_neg (by rw[hm];decide)));clear hm az;go_wp2_with fail;refine (zaq s _ _ _ b _ aA.b9 aA.hp hs).mono ?_;rintro e w8 ⟨rfl,kn,kx⟩;have cU:=aA.call kn kx (zS _ _ _ aA.hp);clear kn kx aA;go_wp2_with fail;go_roundg 0;exact⟨l++[yD s p],_,_,false,_,rfl,by simp,by simp,cU,zA aQ⟩;simp at hg ⊢;omega
   ·skip
    have TB:=zC tb;clear tb;go_wp2_with fail;have aK:qV w b s (tok s pos).text (tok s pos).at_ l p (zR s p bd l.length) (.slice a0 l.length dS) wr:=(by rw[zA TB];exact hinv);clear c0 c1 c2 c3 c4 c5 fz x0 x1 x2 x3 x4 xf;refine (jL s p (zR s p bd l.length) b _ aK.b9 b8 hs).mono ?_;rintro e w1 ⟨rfl,bg,cF⟩;unfold vC;have aD:=aK.call bg cF (zS _ _ _ b8);have aH:w.heap.size+1<w1.heap.size:=(by have:=aD.sz;omega);obtain⟨d0,d1,d2,d3,d4,mW⟩:=aD.ac;have aS:=aD.own;clear bg cF aK;go_wp2_with (at_builtin;refine wpList_append_own _ rfl _ _ 241 rfl (w.heap.size+2) 317 i0 _ 3 32 Tryz.underlying241 hi cQ cz cx rfl (by decide) _ _ _ rfl ((aS.alloc _).alloc _) ⟨w1.heap.size+1,0,none⟩ 1 1 (yD s p).cells rfl rfl (qS w1 _ (yD s p)) (za8 _) (by unfold maxLen;omega) (by omega) (by simp;omega) ?_);intro v5 w5 aj aU hne5;clear hne5;obtain⟨a5,ie,rfl⟩:=zD aj;obtain⟨aF,e0,e1,e2,e3,e4,oY⟩:=aD.append (yD s p) aj aU;have eH:w.heap.size+1<w5.heap.size:=(by have:=aF.sz;simp at this;omega);clear aj aU d0 d1 d2 d3 d4 mW aS aD;go_wp2_with fail;refine (qW s _ _ _ b _ aF.b9 (zS _ _ _ b8) hs).mono ?_;rintro e w7 ⟨rfl,ia,lr⟩;have aA:=aF.call ia lr (vS (zS _ _ _ b8));clear ia lr aF e0 e1 e2 e3 e4 oY eH
    cases hm:im s (zW s p (zR s p bd l.length)) (zT s p (zR s p bd l.length)) { data:=#[44] } with
    | true=>
     have aQ:=zC ((zA az).trans (if_pos hm));have bh:=zc0 nD hm;clear hm az;go_wp2_with fail;go_roundg (7-(l++[yD s p]).length);exact⟨l++[yD s p],_,_,true,_,rfl,λ _=>by simp;omega,by simp,aA,zA aQ⟩;simp at hg ⊢;omega
    | false=>
     have aQ:=zC ((zA az).trans (if_neg (by rw[hm];decide)));clear hm az;go_wp2_with fail;refine (zaq s _ _ _ b _ aA.b9 aA.hp hs).mono ?_;rintro e w8 ⟨rfl,kn,kx⟩;have cU:=aA.call kn kx (zS _ _ _ aA.hp);clear kn kx aA;go_wp2_with fail;go_roundg 0;exact⟨l++[yD s p],_,_,false,_,rfl,by simp,by simp,cU,zA aQ⟩;simp at hg ⊢;omega
end
end Go.Proofs.YtldkpahaocjdpaaGreat
