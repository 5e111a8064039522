/-
  The program's reader: rule, at every text and place.
-/
import Derived.Test.YtldkpahaocjdpaaGreatR09
set_option maxHeartbeats 16000000
set_option maxRecDepth 1000000
namespace Go.Proofs.YtldkpahaocjdpaaGreat
section
open Go.RowKit
variable {fr:Nat × Nat} {e:TypeId} {c:Array Value} {n:Nat} {w:W8}
theorem notT_of {e':TypeId}(hb:w.heap[n]?=some (.cells c e fr))(bG:e≠e'):dM w e' n:=by
 intro c' fr' h;rw[hb] at h;injection h with h
 injection h with _ h _
 exact bG h
variable {w':W8}
theorem cells_keptT {B:List Nat}(hb:w.heap[n]?=some (.cells c e fr))(k:Kept B w w')(hB:∀ x∈B,x≠n\/dM w e x):w'.heap[n]?=some (.cells c e fr):=by
 rw[k.block n (Array.getElem?_eq_some_iff.1 hb).1 (λ hm=>by
  rcases hB n hm with h1 | h1
  ·exact h1 rfl
  ·exact h1 _ _ hb)]
 exact hb
def RulePost (w:W8)(b:Nat)(s:B8)(num:Nat)(mv:Value)(n0:Nat)(P:Bool × Nat × PRule × List PMen)(e:Ending)(w':W8):Prop:=
 ∃ (x:B8) (a:O8) (n c:Nat) (a':O8) (n' c':Nat) (gm:Value),e=.returned (.tuple #[.agg #[.string x,.slice a n c,.slice a' n' c'],.bool P.1])/\Kept (b::mv.ownBlock.toList) w w'/\dN w' b s P.2.1 num gm/\(∀ k,gm.ownBlock=some k->mv.ownBlock=some k\/w.heap.size<=k) /\
  (P.1=true->∃ (bs:List (PLit × Value)) (ms':List (PMen × Value)),x=P.2.2.1.pd/\bL w' (b+1) gm ms'/\ms'.map (·.1)=P.2.2.2/\ms'.length<=n0+4/\w'.ownsRow w.heap.size 191 1 (.slice a n c) P.2.2.1.ts.length (ptCells P.2.2.1.ts)/\cS w' w.heap.size (.slice a' n' c') bs/\bs.map (·.1)=P.2.2.1.body/\bs.length<=3/\P.2.1<=s.size)
structure lP (w:W8)(b:Nat)(s:B8)(num:Nat)(mv:Value)(h:Nat)(pd:B8)(tv:Value)(ts:List (Bool × B8))(p:Nat)(ms:List (PMen × Value))(eU:Value)(wr:W8):Prop where
 dg:dN wr b s p num eU
 eh:bL wr (b+1) eU ms
 res:wr.heap[w.heap.size]?=some (.cells #[.string { data:=#[] },.slice none 0 0,.slice none 0 0] 123 (0,0))
 hd:wr.heap[h]?=some (.cells #[.string pd,tv] 79 (0,0))
 DQ:wr.ownsRow w.heap.size 191 1 tv ts.length (ptCells ts)
 kept:Kept (b::mv.ownBlock.toList) w wr
 at_:∀ k,eU.ownBlock=some k->mv.ownBlock=some k\/w.heap.size<=k
 bw:b<w.heap.size
 hw:w.heap.size<h
variable {wr w1:W8} {eU tv mv:Value} {ms:List (PMen × Value)} {p h num b:Nat} {ts:List (Bool × B8)} {pd s:B8}
theorem lP.take {p':Nat}(i:lP w b s num mv h pd tv ts p ms eU wr)(k:Kept [b] wr w1)(hr:dN w1 b s p' num eU):lP w b s num mv h pd tv ts p' ms eU w1:=
 have h1:=i.bw;have h2:=i.hw
 ⟨hr,i.eh.kept k (by simp),cells_keptT i.res k (by simp;omega),cells_keptT i.hd k (by simp;omega),ownsRow_kept i.DQ k (by simp;omega),i.kept.step k (by simp),i.at_,i.bw,i.hw⟩
theorem lP.ends (i:lP w b s num mv h pd tv ts p ms eU wr)(k:Kept [w.heap.size] wr w1):
  Kept (b::mv.ownBlock.toList) w w1/\dN w1 b s p num eU/\bL w1 (b+1) eU ms/\w1.ownsRow w.heap.size 191 1 tv ts.length (ptCells ts):=by
 have h1:=i.bw;refine⟨i.kept.step k (by simp),i.dg.kept k (by simp;omega),i.eh.cZ k (λ x hx=>?_),own_keptT i.DQ k (λ x hx=>?_)⟩
 ·simp at hx;subst hx;exact .inr ⟨notT_of i.res (by decide),notT_of i.res (by decide)⟩
 ·simp at hx;subst hx;exact .inr (notT_of i.res (by decide))
theorem lits_ends {base:Nat}{bv:Value}{ls:List (PLit × Value)}(h:cS w base bv ls)(hb:w.heap[n]?=some (.cells c 123 (0,0)))(k:Kept [n] w w'):cS w' base bv ls:=
 h.cZ k (λ x hx=>by simp at hx;subst hx;exact .inr ⟨notT_of hb (by decide),notT_of hb (by decide)⟩)
theorem prule_any (w:W8)(b:Nat)(s:B8)(pos num:Nat)(mv:Value)(fE:List (PMen × Value))(h:dN w b s pos num mv)(eX:bL w (b+1) mv fE)(ed:fE.length<=800)(bn:pos<=s.size)(hs:s.size<=2000000):
  Calls Tryz.prog 74 #[.pointer (some ⟨b,0,none⟩)] w (RulePost w b s num mv fE.length (pruleS s num pos (fE.map (·.1)))):=by
 have dQ:s.size<=maxLen:=by unfold maxLen;omega
 have h0:=h.kept ((Kept.refl [] w).alloc (.cells #[.string { data:=#[] },.slice none 0 0,.slice none 0 0] 123)) (by simp);have pk:=eX.kept ((Kept.refl [] w).alloc (.cells #[.string { data:=#[] },.slice none 0 0,.slice none 0 0] 123)) (by simp);obtain⟨bP,c0,c1,c2,c3,c4,c5,fz⟩:=h;have jL:(w.alloc (.cells #[.string { data:=#[] },.slice none 0 0,.slice none 0 0] 123)).heap[w.heap.size]?=some (.cells #[.string { data:=#[] },.slice none 0 0,.slice none 0 0] 123 (0,0)):=heap_alloc_new w _;have jF:=hide jL;have hq:=patom_le bn;have nV:=hide (λ k (e:mv.ownBlock=some k)=>(eX.row.lt k e).2);have HP:pruleS s num pos (fE.map (·.1))=_:=pruleS.eq_1 s num pos (fE.map (·.1));have HP:=hide HP;clear jL eX;go_enter Tryz.func74,Tryz.ntmps74;go_wp2_with fail;refine (patom_any _ b s pos num mv false (ae s pos).2.1 fE h0 pk (by omega) bn hs).mono ?_;intro e w1 hpost;clear c0 c1 c2 c3 c4 c5 fz h0 pk
 cases hr:patomS s pos with
 | no q=>
  rw[hr] at hpost hq HP;obtain⟨rfl,de,ez⟩:=hpost;have aT:=cells_keptT (ad jF) de (by simp;omega);obtain⟨a0,f0⟩:=block_cells aT 0;obtain⟨a1,f1⟩:=block_cells aT 1;obtain⟨a2,f2⟩:=block_cells aT 2;have lI:w.heap.size<w1.heap.size:=by have:=de.size;simp at this;omega
  have HK:=hide de;have HR:=hide ez;clear de ez hr aT jF;go_wp2_with fail;obtain⟨q0,q1,q2⟩:=set3 a0 a1 a2 (.string { data:=#[] }) (.slice none 0 0) (.slice none 0 0);have q0:=past5 q0;have q1:=past5 q1;have q2:=past5 q2;have k3:=(kept3 w1 w.heap.size (.string { data:=#[] }) (.slice none 0 0) (.slice none 0 0)).alloc (Obj.cells #[.string { data:=#[] },.slice none 0 0] 79);refine bodyPost_ret (v:=.tuple #[.agg #[.string { data:=#[] },.slice none 0 0,.slice none 0 0],.bool false]) (by simp[results,Tryz.results74,go_sem,q0,q1,q2]) rfl ?_;rw[ad HP];exact⟨_,_,_,_,_,_,_,mv,rfl,(((Kept.refl _ w).alloc _).step (ad HK) (by simp)).step k3 (by simp),(ad HR).kept k3 (by simp;omega),λ k e=>.inl e,λ e=>by cases e⟩
 | yes q pd ts pl=>
  rw[hr] at hpost hq HP;obtain⟨tv,eU,rfl,de,ez,fa,iN,bq⟩:=hpost;obtain⟨cy,bT,rfl⟩:=own_slice iN;have lI:w.heap.size<w1.heap.size:=by have:=de.size;simp at this;omega
  have aT:=cells_keptT (ad jF) de (λ x hx=>by
   rcases List.mem_cons.1 hx with rfl | hx
   ·exact .inl (by omega)
   ·have:=ad nV x (by simpa using hx);exact .inl (by omega))
  have ka:=(Kept.refl [] w1).alloc (Obj.cells #[.string pd,.slice cy ts.length bT] 79);have hI:lP w b s num mv w1.heap.size pd (.slice cy ts.length bT) ts q (fE++[(dc s num pos pd ts pl,.slice cy ts.length bT)]) eU (w1.alloc (Obj.cells #[.string pd,.slice cy ts.length bT] 79)):=by
   refine⟨ez.kept ka (by simp),fa.cZ ka (by simp),cells_keptT aT ka (by simp),heap_alloc_new _ _,own_keptT (aw iN (by simp)) ka (by simp),((((Kept.refl _ w).alloc _).step de (by simp;intro x hx;exact .inl (.inr hx))).alloc _),λ k e=>?_,bP,lI⟩;rcases bq k e with h1 | h1
   ·exact .inl h1
   ·exact .inr (by simp at h1;omega)
  have HI:=hide hI;have JW:w.heap.size<w1.heap.size+1:=by omega
  clear de ez fa iN bq aT ka hI jF hr;go_wp2_with fail;refine (rtake_any s q num eU 8 b _ (ad HI).dg hq dQ).mono ?_;rintro e w2 ⟨rfl,cN,fc⟩;have dw:=(ad HI).take cN fc;have nK:=cN.size;rw[World.size_alloc] at nK;clear HI cN fc;obtain⟨d0,g0⟩:=block_cells dw.hd 0;obtain⟨d1,g1⟩:=block_cells dw.hd 1
  cases h8:(ae s q).1==8 with
  | true=>
   have xF:(ae s q).1=8:=(by simpa using h8);have e8:rtake s q 8=(ae s q).2.2:=(by unfold rtake;rw[if_pos h8]);rw[e8] at dw;obtain⟨a0,f0⟩:=block_cells dw.res 0;obtain⟨a1,f1⟩:=block_cells dw.res 1;obtain⟨a2,f2⟩:=block_cells dw.res 2;have iT:=hide ((ad HP).trans (if_pos xF));have fG:=hide dw;clear HP h8 xF e8 dw;go_wp2_with fail;obtain⟨q0,q1,q2⟩:=set3 a0 a1 a2 (.string pd) (.slice cy ts.length bT) (.slice none 0 0);have k3:=kept3 w2 w.heap.size (.string pd) (.slice cy ts.length bT) (.slice none 0 0);refine bodyPost_ret (v:=.tuple #[.agg #[.string pd,.slice cy ts.length bT,.slice none 0 0],.bool true]) (by simp[results,Tryz.results74,go_sem,q0,q1,q2]) rfl ?_;rw[ad iT];obtain⟨z1,z2,z3,z4⟩:=(ad fG).ends k3;exact⟨_,_,_,_,_,_,_,eU,rfl,z1,z2,(ad fG).at_,λ _=>⟨[],_,rfl,z3,by simp,by simp,z4,⟨World.ownsRow_nil _ _ _ _,by simp⟩,rfl,by simp,(scan_le s q hq).2⟩⟩
  | false=>
   have xF:¬ (ae s q).1=8:=(by simpa using h8);have e8:rtake s q 8=q:=(by unfold rtake;rw[if_neg (by rw[h8];decide)]);rw[e8] at dw;have iT:=hide ((ad HP).trans (if_neg xF));have fG:=hide dw;clear HP h8 xF e8 dw d0 d1 g0 g1;go_wp2_with fail;refine (rtake_any s q num eU 9 b _ (ad fG).dg hq dQ).mono ?_;rintro e w3 ⟨rfl,fB,iF⟩;have jx:=(ad fG).take fB iF;have uR:=fB.size;clear fG fB iF
   cases h9:(ae s q).1==9 with
   | false=>
    have xG:¬ (ae s q).1=9:=(by simpa using h9);have e9:rtake s q 9=q:=(by unfold rtake;rw[if_neg (by rw[h9];decide)]);rw[e9] at jx;obtain⟨a0,f0⟩:=block_cells jx.res 0;obtain⟨a1,f1⟩:=block_cells jx.res 1;obtain⟨a2,f2⟩:=block_cells jx.res 2;have nX:=hide ((ad iT).trans (if_neg xG));have ku:=hide jx;clear iT h9 xG e9 jx;go_wp2_with fail;obtain⟨q0,q1,q2⟩:=set3 a0 a1 a2 (.string { data:=#[] }) (.slice none 0 0) (.slice none 0 0);have k3:=kept3 w3 w.heap.size (.string { data:=#[] }) (.slice none 0 0) (.slice none 0 0);refine bodyPost_ret (v:=.tuple #[.agg #[.string { data:=#[] },.slice none 0 0,.slice none 0 0],.bool false]) (by simp[results,Tryz.results74,go_sem,q0,q1,q2]) rfl ?_;rw[ad nX];obtain⟨z1,z2,z3,z4⟩:=(ad ku).ends k3;exact⟨_,_,_,_,_,_,_,eU,rfl,z1,z2,(ad ku).at_,λ e=>by cases e⟩
   | true=>
    have xG:(ae s q).1=9:=(by simpa using h9);have e9:rtake s q 9=(ae s q).2.2:=(by unfold rtake;rw[if_pos h9]);rw[e9] at jx;have nX:=hide ((ad iT).trans (if_pos xG));have ku:=hide jx;have J0:=(scan_le s q hq).2;clear iT h9 xG e9 jx;go_wp2_with fail;refine (pbody_any w3 b s (ae s q).2.2 num eU _ (ad ku).dg (ad ku).eh (by simp;omega) J0 hs).mono ?_;rintro e w4 ⟨ab,nb,cb,GB,ls,GA,rfl,jO,eY,jr,uH,C4,oR,pN⟩;have bG:∀ x∈(b::eU.ownBlock.toList),x=b\/(dM w3 123 x/\dM w3 79 x/\dM w3 191 x):=λ x hx=>by
     rcases List.mem_cons.1 hx with rfl | hx
     ·exact .inl rfl
     ·exact .inr ⟨own_notT (ad ku).eh.row (by decide) x hx,own_notT (ad ku).eh.row (by decide) x hx,own_notT (ad ku).eh.row (by decide) x hx⟩
    have rZ:lP w b s num mv w1.heap.size pd (.slice cy ts.length bT) ts (pbodyS s num 3 (ae s q).2.2 [] ((fE++[(dc s num pos pd ts pl,Value.slice cy ts.length bT)]).map (·.1))).2.1 GA GB w4:=by
     have i:=ad ku;have hz:=i.kept.size;refine⟨eY,jr,cells_keptT i.res jO (λ x hx=>?_),cells_keptT i.hd jO (λ x hx=>?_),own_keptT i.DQ jO (λ x hx=>?_),i.kept.step jO (λ x hx=>?_),λ k e=>?_,bP,lI⟩
     ·rcases bG x hx with rfl | hx
      ·exact .inl (by omega)
      ·exact .inr hx.1
     ·rcases bG x hx with rfl | hx
      ·exact .inl (by omega)
      ·exact .inr hx.2.1
     ·rcases bG x hx with rfl | hx
      ·exact .inl bP
      ·exact .inr hx.2.2
     ·rcases List.mem_cons.1 hx with rfl | hx
      ·exact .inl (by simp)
      ·rcases i.at_ x (by simpa using hx) with h1 | h1
       ·exact .inl (by simp[h1])
       ·exact .inr h1
     ·rcases oR k e with h1 | h1
      ·exact i.at_ k h1
      ·exact .inr (by omega)
    have uS:=jO.size;clear jO eY jr bG oR;have C7:((fE++[(dc s num pos pd ts pl,Value.slice cy ts.length bT)]).map (·.1))=fE.map (·.1)++[dc s num pos pd ts pl]:=(by simp);rw[C7] at rZ uH pN ⊢;have HY:=hide pN;have HM:=hide uH;have Dt:=(ad ku).kept.size;clear pN uH ku;obtain⟨d0,g0⟩:=block_cells rZ.hd 0;obtain⟨d1,g1⟩:=block_cells rZ.hd 1;obtain⟨a0,f0⟩:=block_cells rZ.res 0;obtain⟨a1,f1⟩:=block_cells rZ.res 1;obtain⟨a2,f2⟩:=block_cells rZ.res 2;have wL:=hide rZ;clear rZ;go_wp2_with fail;obtain⟨q0,q1,q2⟩:=set3 a0 a1 a2 (.string pd) (.slice cy ts.length bT) (.slice ab nb cb);have k3:=kept3 w4 w.heap.size (.string pd) (.slice cy ts.length bT) (.slice ab nb cb);refine bodyPost_ret (v:=.tuple #[.agg #[.string pd,.slice cy ts.length bT,.slice ab nb cb],.bool (pbodyS s num 3 (ae s q).2.2 [] (fE.map (·.1)++[dc s num pos pd ts pl])).1]) (by simp[results,Tryz.results74,go_sem,q0,q1,q2]) rfl ?_;rw[ad nX];obtain⟨z1,z2,z3,z4⟩:=(ad wL).ends k3;refine⟨_,_,_,_,_,_,_,GB,rfl,z1,z2,(ad wL).at_,λ hy=>?_⟩;obtain⟨y1,y2,y3,y4⟩:=ad HY hy;exact⟨ls,GA,rfl,z3,ad HM,by simp at C4;omega,z4,lits_ends (y1.low Dt) (ad wL).res k3,y2,y3,y4⟩
end
section
open Go.RowKit
structure PR where
 R:PRule
 hv:Value
 bs:List (PLit × Value)
 bv:Value
def PR.cells (r:PR):V8:=[.string r.R.pd,r.hv,r.bv]
def prCells (rs:List PR):V8:=rs.flatMap PR.cells
theorem prCells_snoc (rs:List PR)(r:PR):prCells (rs++[r])=prCells rs++r.cells:=by simp[prCells]
structure ev (w:W8)(base:Nat)(r:PR):Prop where
 hd:w.ownsRow base 191 1 r.hv r.R.ts.length (ptCells r.R.ts)
 bo:cS w base r.bv r.bs
 eq:r.bs.map (·.1)=r.R.body
structure bR (w:W8)(base:Nat)(rv:Value)(rs:List PR):Prop where
 row:w.ownsRow base 123 3 rv rs.length (prCells rs)
 each:∀ r∈rs,ev w base r
theorem ev.cZ {B:List Nat}{w w':W8}{base:Nat}{r:PR}(h:ev w base r)(k:Kept B w w')(hB:∀ x∈B,x<base\/(dM w 183 x/\dM w 191 x)):ev w' base r:=
 ⟨own_keptT h.hd k (λ x hx=>(hB x hx).imp id And.right),h.bo.cZ k hB,h.eq⟩
variable {r:PR} {base base':Nat} {w:W8}
theorem ev.low (h:ev w base r)(hb:base'<=base):ev w base' r:=⟨aw h.hd hb,h.bo.low hb,h.eq⟩
theorem bR.cZ {B:List Nat}{w w':W8}{base:Nat}{rv:Value}{rs:List PR}(h:bR w base rv rs)(k:Kept B w w')(hB:∀ x∈B,x<base\/(dM w 123 x/\dM w 183 x/\dM w 191 x)):bR w' base rv rs:=
 ⟨own_keptT h.row k (λ x hx=>(hB x hx).imp id And.left),λ r hr=>(h.each r hr).cZ k (λ x hx=>(hB x hx).imp id And.right)⟩
variable {rs:List PR} {rv:Value}
theorem bR.low (h:bR w base rv rs)(hb:base'<=base):bR w base' rv rs:=⟨aw h.row hb,λ r hr=>(h.each r hr).low hb⟩
variable {ms:List (PMen × Value)} {mv:Value}
theorem bL.low (h:bL w base mv ms)(hb:base'<=base):bL w base' mv ms:=⟨aw h.row hb,λ r hr=>aw (h.each r hr) hb⟩
structure iW (w:W8)(b:Nat)(s:B8)(rs:List PR)(p num:Nat)(ms:List (PMen × Value))(mv rv:Value)(wr:W8):Prop where
 dg:dN wr b s p num mv
 hp:p<=s.size
 eh:bL wr (b+1) mv ms
 rules:bR wr (b+1) rv rs
 res:wr.heap[w.heap.size]?=some (.cells #[.slice none 0 0,.slice none 0 0] 100 (0,0))
 below:Below w.heap.size w wr
 bw:w.heap.size<b
variable {wr w1:W8} {n:Nat}
theorem below_kept {B:List Nat}(h:Below n w wr)(k:Kept B wr w1)(hn:n<=wr.heap.size)(hB:∀ x∈B,n<=x):Below n w w1:=
 h.trans ⟨k.os,k.tape,k.output,k.size,λ i hi=>k.block i (Nat.lt_of_lt_of_le hi hn) (λ hm=>by have:=hB i hm;omega)⟩
variable {p b:Nat} {s:B8}
theorem iW.num {num:Nat}(h:iW w b s rs p num ms mv rv wr)(k:Nat):iW w b s rs p k ms mv rv (wr.setCell ⟨b,4,none⟩ (.int .i64 k)):=by
 have hb:=h.bw;have kk:Kept [b] wr (wr.setCell ⟨b,4,none⟩ (.int .i64 k)):=(Kept.refl [b] wr).setCell (by simp) _;obtain⟨q,c0,c1,c2,c3,c4,c5,fz⟩:=h.dg;refine⟨⟨by simpa using q,?_,?_,?_,?_,bS c4,?_,λ o=>by simpa using fz o⟩,h.hp,h.eh.kept kk (by simp),h.rules.cZ kk (by simp),cells_keptT h.res kk (by simp;omega),below_kept h.below kk (by omega) (by simp;omega),hb⟩
 all_goals (rw[cs_other' (by omega)];assumption)
theorem iW.rule {num p':Nat}{ms':List (PMen × Value)}{gm:Value}(h:iW w b s rs p num ms mv rv wr)(k:Kept (b::mv.ownBlock.toList) wr w1)(hr:dN w1 b s p' num gm)(hp:p'<=s.size)(hm:bL w1 (b+1) gm ms'):iW w b s rs p' num ms' gm rv w1:=by
 have hb:=h.bw;have hz:=h.dg.lt;have hB:∀ x∈(b::mv.ownBlock.toList),x=b\/(b+1<=x/\dM wr 123 x/\dM wr 183 x/\dM wr 191 x/\dM wr 100 x):=λ x hx=>by
  rcases List.mem_cons.1 hx with rfl | hx
  ·exact .inl rfl
  ·exact .inr ⟨(h.eh.row.lt x (by simpa using hx)).1,own_notT h.eh.row (by decide) x hx,own_notT h.eh.row (by decide) x hx,own_notT h.eh.row (by decide) x hx,own_notT h.eh.row (by decide) x hx⟩
 refine⟨hr,hp,hm,h.rules.cZ k (λ x hx=>?_),cells_keptT h.res k (λ x hx=>?_),below_kept h.below k (by omega) (λ x hx=>?_),hb⟩
 ·rcases hB x hx with rfl | h1
  ·exact .inl (by omega)
  ·exact .inr ⟨h1.2.1,h1.2.2.1,h1.2.2.2.1⟩
 ·rcases hB x hx with rfl | h1
  ·exact .inl (by omega)
  ·exact .inr h1.2.2.2.2
 ·rcases hB x hx with rfl | h1 <;> omega
theorem iW.append {num:Nat}{W w5:W8}(h:iW w b s rs p num ms mv rv w1)(kW:Kept [] w1 W){GJ:Value}(hr:ev w1 (b+1) r)
  (aI:w5.ownsRow (b+1) 123 3 GJ (rs.length+1) (prCells rs++r.cells)) (hg:W.grownBy w5 rv.ownBlock):iW w b s (rs++[r]) p num ms mv GJ w5:=by
 have hb:=h.bw;have hz:=h.dg.lt;have k5:Kept rv.ownBlock.toList w1 w5:=((kW.mono (C:=rv.ownBlock.toList) (by simp))).grown hg (λ k e=>.inr (by simp[e]));have aE:∀ x∈rv.ownBlock.toList,b+1<=x:=λ x hx=>(h.rules.row.lt x (by simpa using hx)).1
 have lA:∀ x∈rv.ownBlock.toList,∀ e,123≠e->dM w1 e x:=λ x hx e he=>own_notT h.rules.row he x hx
 refine⟨h.dg.kept k5 (λ hm=>by have:=aE b hm;omega),h.hp,h.eh.cZ k5 (λ x hx=>.inr ⟨lA x hx _ (by decide),lA x hx _ (by decide)⟩),⟨?_,λ y hy=>?_⟩,cells_keptT h.res k5 (λ x hx=>.inr (lA x hx _ (by decide))),below_kept h.below k5 (by omega) (λ x hx=>by have:=aE x hx;omega),hb⟩
 ·rw[prCells_snoc,List.length_append];exact aI
 ·rcases List.mem_append.1 hy with hy | hy
  ·exact (h.rules.each y hy).cZ k5 (λ x hx=>.inr ⟨lA x hx _ (by decide),lA x hx _ (by decide)⟩)
  ·simp at hy;subst hy;exact hr.cZ k5 (λ x hx=>.inr ⟨lA x hx _ (by decide),lA x hx _ (by decide)⟩)
def RulesPost (w:W8)(s:B8)(P:Bool × Nat × List PRule × List PMen)(e:Ending)(w':W8):Prop:=
 Below w.heap.size w w'/\(P.1=false->e=.returned (.tuple #[.agg #[.slice none 0 0,.slice none 0 0],.int .i64 (ae s P.2.1).2.1,.bool false])) /\
 (P.1=true->∃ (a:O8) (n c:Nat) (a':O8) (n' c':Nat) (rs:List PR) (ms:List (PMen × Value)),e=.returned (.tuple #[.agg #[.slice a n c,.slice a' n' c'],.int .i64 0,.bool true])/\bR w' w.heap.size (.slice a n c) rs/\rs.map (·.R)=P.2.2.1/\bL w' w.heap.size (.slice a' n' c') ms/\ms.map (·.1)=P.2.2.2/\rs.length<=30/\ms.length<=120)
theorem infoPRule:(Tryz.prog.info? 123).map (λ i=>(i.zero,i.size,i.bytes))=some (some (.agg #[.string { data:=#[] },.slice none 0 0,.slice none 0 0]),3,64):=by kernel_rfl
theorem pr_cell (w1:W8)(o:Obj)(r:PR)(j:Nat)(u:Value)(h:r.cells[j]?=some u):((w1.alloc o).alloc (Obj.cells #[.string r.R.pd,r.hv,r.bv] 123)).cell? ((⟨w1.heap.size+1,0,none⟩:Addr).add j)=some u:=by
 have e:(⟨w1.heap.size+1,0,none⟩:Addr).add j=⟨w1.heap.size+1,j,none⟩:=by unfold Addr.add;split <;> simp_all
 rw[e,World.cell?_alloc_at _ _ _ _ (by simp)];simpa[PR.cells] using h
theorem pr_one (R:PRule)(a:O8)(n c:Nat)(a':O8)(n' c':Nat)(bs:List (PLit × Value)):∀ u∈(PR.mk R (.slice a n c) bs (.slice a' n' c')).cells,u.oneCell'=true:=by
 intro u hu;simp[PR.cells] at hu;rcases hu with rfl | rfl | rfl <;> rfl
theorem q_start (aT:Below (w.alloc (Obj.cells #[.slice none 0 0,.slice none 0 0] 100)).heap.size (w.alloc (Obj.cells #[.slice none 0 0,.slice none 0 0] 100)) w1):
  iW w w1.heap.size s [] 0 0 [] (.slice none 0 0) (.slice none 0 0) (w1.alloc (Obj.cells #[.string s,.int .i64 (ae s 0).1,.int .i64 (ae s 0).2.1,.int .i64 (ae s 0).2.2,.int .i64 0,.slice none 0 0] 163)):=by
 have hz:=aT.size;simp at hz;refine⟨⟨by simp,?_,?_,?_,?_,?_,?_,?_⟩,Nat.zero_le _,⟨World.ownsRow_nil _ _ _ _,by simp⟩,⟨World.ownsRow_nil _ _ _ _,by simp⟩,?_,?_,by omega⟩
 all_goals first | (rw[World.cell?_alloc_at _ _ _ _ rfl];rfl) | (intro o;rw[World.frozen?_alloc_at _ _ _ _ rfl];done) | skip
 ·rw[Below.heap_alloc _ _ _ (by omega),aT.block _ (by simp)];exact heap_alloc_new w _
 ·exact ((B9.alloc L9 _).trans (aT.mono (by simp))).alloc (by omega) _
theorem set2' {u0 u1:Value}(h0:w1.cell? ⟨n,0,none⟩=some u0)(h1:w1.cell? ⟨n,1,none⟩=some u1)(v0 v1:Value):((w1.setCell ⟨n,0,none⟩ v0).setCell ⟨n,1,none⟩ v1).cell? ⟨n,0,none⟩=some v0/\((w1.setCell ⟨n,0,none⟩ v0).setCell ⟨n,1,none⟩ v1).cell? ⟨n,1,none⟩=some v1:=
 ⟨by rw[cs_other' (by omega)];exact bS h0,bS (by rw[cs_other' (by omega)];exact h1)⟩
theorem prules_step (s:B8)(p:Nat)(rs:List PRule)(ms:List PMen)(h:rs.length<=30):prulesS s (31-rs.length) p rs ms =
  if (ae s p).1=0 then (true,p,rs,ms)
  else if rs.length=30 then (false,p,rs,ms)
  else if (pruleS s rs.length p ms).1 then prulesS s (31-(rs.length+1)) (pruleS s rs.length p ms).2.1 (rs++[(pruleS s rs.length p ms).2.2.1]) (pruleS s rs.length p ms).2.2.2
  else (false,(pruleS s rs.length p ms).2.1,rs,(pruleS s rs.length p ms).2.2.2):=by
 have e:31-rs.length=(31-(rs.length+1))+1:=by omega
 rw[e,prulesS]
theorem prules_any (w:W8)(s:B8)(hs:s.size<=2000000):
  Calls Tryz.prog 45 #[.string s] w (RulesPost w s (pparsed s)):=by
 have dQ:s.size<=maxLen:=by unfold maxLen;omega
 obtain⟨i0,hi,dK,ir,bZ⟩:=info_parts infoPRule;go_enter Tryz.func45,Tryz.ntmps45;go_wp2_with fail;refine (scan_any' s 0 (Nat.zero_le _) dQ _).mono ?_;rintro e w1 ⟨rfl,aT⟩;have dj:=q_start (s:=s) aT;clear aT;go_wp2_with fail
 go_loopg [6] 32 (λ g rv wr=>∃ (rs:List PR) (ms:List (PMen × Value)) (p num:Nat) (mv:Value),rs.length<=30/\31-rs.length<=g/\ms.length<=4*rs.length/\iW w w1.heap.size s rs p num ms mv rv wr/\pparsed s=prulesS s (31-rs.length) p (rs.map (·.R)) (ms.map (·.1)))
 exact⟨[],[],0,0,_,by simp,by simp,by simp,dj,rfl⟩
 case round=>
  clear dj;obtain⟨rs,ms,p,num,mv,hl,hg,ed,hinv,bj⟩:=hrel;obtain⟨a1,kN,rfl⟩:=own_slice hinv.rules.row;obtain⟨a2,tR,rfl⟩:=own_slice hinv.eh.row;have dj:=prules_step s p (rs.map (·.R)) (ms.map (·.1)) (by simpa using hl);rw[List.length_map] at dj;have HF:=hide (bj.trans dj);clear bj dj;have dP:=hinv.hp;obtain⟨bP,c0,c1,c2,c3,c4,c5,fz⟩:=hinv.dg;have ei:=hinv.bw;obtain⟨r0,f0⟩:=block_cells hinv.res 0;obtain⟨r1,f1⟩:=block_cells hinv.res 1;have HI:=hide hinv;clear hinv
  by_cases h0:(ae s p).1=0
  ·have BY:((ae s p).1 != 0)=false:=(by simp[h0]);have fS:=hide ((ad HF).trans (if_pos h0));have HE:=hide h0;clear HF h0;go_wp2_with fail;obtain⟨q0,q1⟩:=set2' r0 r1 (.slice a1 rs.length kN) (.slice a2 ms.length tR);refine bodyPost_ret (v:=.tuple #[.agg #[.slice a1 rs.length kN,.slice a2 ms.length tR],.int .i64 0,.bool true]) (by simp[results,Tryz.results45,go_sem,q0,q1]) rfl ?_;have kk:=ra_set wr w.heap.size (.slice a1 rs.length kN) (.slice a2 ms.length tR);have i:=ad HI;have jP:∀ e,100≠e->dM wr e w.heap.size:=λ e he=>notT_of i.res he
   rw[ad fS];refine⟨below_kept i.below kk (by omega) (by simp),λ e=>(by cases e),λ _=>⟨_,_,_,_,_,_,rs,ms,rfl,(i.rules.low (by omega)).cZ kk (λ x hx=>?_),rfl,(i.eh.low (by omega)).cZ kk (λ x hx=>?_),rfl,hl,by omega⟩⟩
   ·simp at hx;subst hx;exact .inr ⟨jP _ (by decide),jP _ (by decide),jP _ (by decide)⟩
   ·simp at hx;subst hx;exact .inr ⟨jP _ (by decide),jP _ (by decide)⟩
  ·have BY:((ae s p).1 != 0)=true:=(by simp[h0]);have fS:=hide ((ad HF).trans (if_neg h0));have HE:=hide h0;clear HF h0
   by_cases h30:rs.length=30
   ·have BZ:((rs.length:Int)==30)=true:=(by simp;omega);have bK:=hide ((ad fS).trans (if_pos h30));clear fS h30;go_wp2_with fail
    go_region
    all_goals
     go_wp2_with fail;obtain⟨q0,q1⟩:=set2' r0 r1 (.slice none 0 0) (.slice none 0 0);refine bodyPost_ret (v:=.tuple #[.agg #[.slice none 0 0,.slice none 0 0],.int .i64 (ae s p).2.1,.bool false]) (by simp[results,Tryz.results45,go_sem,q0,q1]) rfl ?_;rw[ad bK];refine⟨below_kept (ad HI).below ((ra_set wr w.heap.size (.slice none 0 0) (.slice none 0 0)).drew) (by omega) (by simp),λ _=>rfl,λ e=>(by cases e)⟩
   ·have BZ:((rs.length:Int)==30)=false:=(by simp;omega);have bK:=hide ((ad fS).trans (if_neg h30));have iG:rs.length<30:=(by omega);have HQ:=hide ((ad HI).num rs.length);clear fS h30;go_wp2_with fail;refine (prule_any _ w1.heap.size s p rs.length _ ms (ad HQ).dg (ad HQ).eh (by omega) dP hs).mono ?_;rintro e w2 ⟨x,a,n,c,a',n',c',gm,rfl,cN,fc,yd,pM⟩;clear c0 c1 c2 c3 c4 c5 fz r0 r1 f0 f1;have kj:=cN.size;rw[World.size_setCell] at kj
    cases hP:(pruleS s rs.length p (ms.map (·.1))).1 with
    | false=>
     have dE:=hide ((ad bK).trans (if_neg (by rw[hP];decide)))
     have zj:w2.heap[w.heap.size]?=some (.cells #[.slice none 0 0,.slice none 0 0] 100 (0,0)):=cells_keptT (ad HQ).res cN (λ x hx=>by
      rcases List.mem_cons.1 hx with rfl | hx
      ·exact .inl (by omega)
      ·exact .inr (own_notT (ad HQ).eh.row (by decide) x hx))
     have fA:Below w.heap.size w w2:=below_kept (ad HQ).below cN (by simp;omega) (λ x hx=>by
      rcases List.mem_cons.1 hx with rfl | hx
      ·omega
      ·have:=((ad HQ).eh.row.lt x (by simpa using hx)).1;omega)
     have ka:=(Kept.refl [] w2).alloc (Obj.cells #[.string x,.slice a n c,.slice a' n' c'] 123);obtain⟨bP,c0,c1,c2,c3,c4,c5,fz⟩:=fc.kept ka (by simp);obtain⟨r0,f0⟩:=block_cells (cells_keptT zj ka (by simp)) 0;obtain⟨r1,f1⟩:=block_cells (cells_keptT zj ka (by simp)) 1;have HB:=hide fA;clear pM yd cN fc bK hP HQ HI zj ka fA;go_wp2_with fail
     go_region
     all_goals
      go_wp2_with fail;obtain⟨q0,q1⟩:=set2' r0 r1 (.slice none 0 0) (.slice none 0 0);refine bodyPost_ret (v:=.tuple #[.agg #[.slice none 0 0,.slice none 0 0],.int .i64 (ae s (pruleS s rs.length p (ms.map (·.1))).2.1).2.1,.bool false]) (by simp[results,Tryz.results45,go_sem,q0,q1]) rfl ?_;rw[ad dE];refine⟨below_kept ((ad HB).alloc (by omega) _) ((ra_set _ w.heap.size (.slice none 0 0) (.slice none 0 0)).drew) (by simp;omega) (by simp),λ _=>rfl,λ e=>(by cases e)⟩
    | true=>
     have dE:=hide ((ad bK).trans (if_pos hP));obtain⟨bs,ms',rfl,eG,yT,JK,gK,lG,yl,I7,nG⟩:=pM hP;have Cg:=(ad HQ).rule cN fc nG eG;have ak:ev w2 (w1.heap.size+1) ⟨(pruleS s rs.length p (ms.map (·.1))).2.2.1,.slice a n c,bs,.slice a' n' c'⟩:=⟨aw gK (by simp;omega),lG.low (by simp;omega),yl⟩;have bH:=Cg.rules.row;have En:=hide Cg;have bt:=hide ak;have Hq:=hide yT;clear pM yd cN fc eG gK lG yl Cg ak bK hP HQ HI yT;go_wp2_with (at_builtin;refine wpList_append_own _ rfl _ _ 75 rfl (w1.heap.size+1) 123 i0 _ 3 64 Tryz.underlying75 hi dK ir bZ rfl (by decide) _ _ _ rfl ((bH.alloc _).alloc _) ⟨w2.heap.size+1,0,none⟩ 1 1 (PR.mk (pruleS s rs.length p (ms.map (·.1))).2.2.1 (.slice a n c) bs (.slice a' n' c')).cells rfl rfl (pr_cell w2 _ (PR.mk (pruleS s rs.length p (ms.map (·.1))).2.2.1 (.slice a n c) bs (.slice a' n' c'))) (pr_one _ _ _ _ _ _ _ _) (by unfold maxLen;omega) (by omega) (by simp;omega) ?_);intro v5 w5 dm dz jv;clear jv;obtain⟨a5,gz,rfl⟩:=own_slice dm;have E9:=(ad En).append (((Kept.refl [] w2).alloc _).alloc _) (ad bt) dm dz;have H7:=hide E9;clear dm dz bH E9 En bt;go_wp2_with fail;go_roundg (31-(rs.length+1));exact⟨_,ms',_,_,_,by simp;omega,by simp,by simp;omega,ad H7,by rw[ad dE,ad Hq];simp⟩;omega
end
end Go.Proofs.YtldkpahaocjdpaaGreat
