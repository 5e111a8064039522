/-
  The program's reader: rule, at every text and place.
-/
import Derived.Test.YtldkpahaocjdpaaGreatS09
set_option maxHeartbeats 16000000
set_option maxRecDepth 1000000
namespace Go.Proofs.YtldkpahaocjdpaaGreat
section
open Go.RowKit
variable {fr:Nat × Nat} {e:TypeId} {c:Array Value} {n:Nat} {w:W8}
theorem notT_of {e':TypeId}(hb:w.heap[n]?=some (.cells c e fr))(bJ:e≠e'):dM w e' n:=by
 intro c' fr' h;rw[hb] at h;injection h with h
 injection h with _ h _
 exact bJ h
variable {w':W8}
theorem cells_keptT {B:List Nat}(hb:w.heap[n]?=some (.cells c e fr))(k:Kept B w w')(hB:∀ x∈B,x≠n\/dM w e x):w'.heap[n]?=some (.cells c e fr):=by
 rw[k.block n (Array.getElem?_eq_some_iff.1 hb).1 (λ hm=>by
  rcases hB n hm with h1 | h1
  ·exact h1 rfl
  ·exact h1 _ _ hb)]
 exact hb
def RulePost (w:W8)(b:Nat)(s:B8)(num:Nat)(mv:Value)(n0:Nat)(P:Bool × Nat × PRule × List PMen)(e:Ending)(w':W8):Prop:=
 ∃ (x:B8) (a:O8) (n c:Nat) (a':O8) (n' c':Nat) (gz:Value),e=.returned (.tuple #[.agg #[.string x,.slice a n c,.slice a' n' c'],.bool P.1])/\Kept (b::mv.ownBlock.toList) w w'/\dN w' b s P.2.1 num gz/\(∀ k,gz.ownBlock=some k->mv.ownBlock=some k\/w.heap.size<=k) /\
  (P.1=true->∃ (bs:List (PLit × Value)) (ms':List (PMen × Value)),x=P.2.2.1.pd/\bL w' (b+1) gz ms'/\ms'.map (·.1)=P.2.2.2/\ms'.length<=n0+4/\w'.ownsRow w.heap.size 191 1 (.slice a n c) P.2.2.1.ts.length (ptCells P.2.2.1.ts)/\cS w' w.heap.size (.slice a' n' c') bs/\bs.map (·.1)=P.2.2.1.body/\bs.length<=3/\P.2.1<=s.size)
structure lV (w:W8)(b:Nat)(s:B8)(num:Nat)(mv:Value)(h:Nat)(pd:B8)(tv:Value)(ts:List (Bool × B8))(p:Nat)(ms:List (PMen × Value))(eW:Value)(wr:W8):Prop where
 de:dN wr b s p num eW
 eh:bL wr (b+1) eW ms
 res:wr.heap[w.heap.size]?=some (.cells #[.string { data:=#[] },.slice none 0 0,.slice none 0 0] 123 (0,0))
 hd:wr.heap[h]?=some (.cells #[.string pd,tv] 79 (0,0))
 DM:wr.ownsRow w.heap.size 191 1 tv ts.length (ptCells ts)
 kept:Kept (b::mv.ownBlock.toList) w wr
 at_:∀ k,eW.ownBlock=some k->mv.ownBlock=some k\/w.heap.size<=k
 bw:b<w.heap.size
 hw:w.heap.size<h
variable {wr w1:W8} {eW tv mv:Value} {ms:List (PMen × Value)} {p h num b:Nat} {ts:List (Bool × B8)} {pd s:B8}
theorem lV.take {p':Nat}(i:lV w b s num mv h pd tv ts p ms eW wr)(k:Kept [b] wr w1)(hr:dN w1 b s p' num eW):lV w b s num mv h pd tv ts p' ms eW w1:=
 have h1:=i.bw;have h2:=i.hw
 ⟨hr,i.eh.kept k (by simp),cells_keptT i.res k (by simp;omega),cells_keptT i.hd k (by simp;omega),ownsRow_kept i.DM k (by simp;omega),i.kept.step k (by simp),i.at_,i.bw,i.hw⟩
theorem lV.ends (i:lV w b s num mv h pd tv ts p ms eW wr)(k:Kept [w.heap.size] wr w1):
  Kept (b::mv.ownBlock.toList) w w1/\dN w1 b s p num eW/\bL w1 (b+1) eW ms/\w1.ownsRow w.heap.size 191 1 tv ts.length (ptCells ts):=by
 have h1:=i.bw;refine⟨i.kept.step k (by simp),i.de.kept k (by simp;omega),i.eh.da k (λ x hx=>?_),own_keptT i.DM k (λ x hx=>?_)⟩
 ·simp at hx;subst hx;exact .inr ⟨notT_of i.res (by decide),notT_of i.res (by decide)⟩
 ·simp at hx;subst hx;exact .inr (notT_of i.res (by decide))
theorem lits_ends {base:Nat}{bv:Value}{ls:List (PLit × Value)}(h:cS w base bv ls)(hb:w.heap[n]?=some (.cells c 123 (0,0)))(k:Kept [n] w w'):cS w' base bv ls:=
 h.da k (λ x hx=>by simp at hx;subst hx;exact .inr ⟨notT_of hb (by decide),notT_of hb (by decide)⟩)
theorem prule_any (w:W8)(b:Nat)(s:B8)(pos num:Nat)(mv:Value)(fO:List (PMen × Value))(h:dN w b s pos num mv)(ff:bL w (b+1) mv fO)(ed:fO.length<=800)(bl:pos<=s.size)(hs:s.size<=2000000):
  Calls Tryz.prog 74 #[.pointer (some ⟨b,0,none⟩)] w (RulePost w b s num mv fO.length (pruleS s num pos (fO.map (·.1)))):=by
 have dZ:s.size<=maxLen:=by unfold maxLen;omega
 have h0:=h.kept ((Kept.refl [] w).alloc (.cells #[.string { data:=#[] },.slice none 0 0,.slice none 0 0] 123)) (by simp);have pC:=ff.kept ((Kept.refl [] w).alloc (.cells #[.string { data:=#[] },.slice none 0 0,.slice none 0 0] 123)) (by simp);obtain⟨bS,c0,c1,c2,c3,c4,c5,fz⟩:=h;have jM:(w.alloc (.cells #[.string { data:=#[] },.slice none 0 0,.slice none 0 0] 123)).heap[w.heap.size]?=some (.cells #[.string { data:=#[] },.slice none 0 0,.slice none 0 0] 123 (0,0)):=heap_alloc_new w _;have mW:=hide jM;have hq:=patom_le bl;have oa:=hide (λ k (e:mv.ownBlock=some k)=>(ff.row.lt k e).2);have HP:pruleS s num pos (fO.map (·.1))=_:=pruleS.eq_1 s num pos (fO.map (·.1));have HP:=hide HP;clear jM ff;go_enter Tryz.func74,Tryz.ntmps74;go_wp2_with fail;refine (patom_any _ b s pos num mv false (ae s pos).2.1 fO h0 pC (by omega) bl hs).mono ?_;intro e w1 hpost;clear c0 c1 c2 c3 c4 c5 fz h0 pC
 cases hr:patomS s pos with
 | no q=>
  rw[hr] at hpost hq HP;obtain⟨rfl,dp,ey⟩:=hpost;have aX:=cells_keptT (ad mW) dp (by simp;omega);obtain⟨a0,f0⟩:=block_cells aX 0;obtain⟨a1,f1⟩:=block_cells aX 1;obtain⟨a2,f2⟩:=block_cells aX 2;have lN:w.heap.size<w1.heap.size:=by have:=dp.size;simp at this;omega
  have HK:=hide dp;have HR:=hide ey;clear dp ey hr aX mW;go_wp2_with fail;obtain⟨q0,q1,q2⟩:=set3 a0 a1 a2 (.string { data:=#[] }) (.slice none 0 0) (.slice none 0 0);have q0:=past5 q0;have q1:=past5 q1;have q2:=past5 q2;have k3:=(kept3 w1 w.heap.size (.string { data:=#[] }) (.slice none 0 0) (.slice none 0 0)).alloc (Obj.cells #[.string { data:=#[] },.slice none 0 0] 79);refine bodyPost_ret (v:=.tuple #[.agg #[.string { data:=#[] },.slice none 0 0,.slice none 0 0],.bool false]) (by simp[results,Tryz.results74,go_sem,q0,q1,q2]) rfl ?_;rw[ad HP];exact⟨_,_,_,_,_,_,_,mv,rfl,(((Kept.refl _ w).alloc _).step (ad HK) (by simp)).step k3 (by simp),(ad HR).kept k3 (by simp;omega),λ k e=>.inl e,λ e=>by cases e⟩
 | yes q pd ts pl=>
  rw[hr] at hpost hq HP;obtain⟨tv,eW,rfl,dp,ey,eY,jE,br⟩:=hpost;obtain⟨cy,bT,rfl⟩:=own_slice jE;have lN:w.heap.size<w1.heap.size:=by have:=dp.size;simp at this;omega
  have aX:=cells_keptT (ad mW) dp (λ x hx=>by
   rcases List.mem_cons.1 hx with rfl | hx
   ·exact .inl (by omega)
   ·have:=ad oa x (by simpa using hx);exact .inl (by omega))
  have ka:=(Kept.refl [] w1).alloc (Obj.cells #[.string pd,.slice cy ts.length bT] 79);have hI:lV w b s num mv w1.heap.size pd (.slice cy ts.length bT) ts q (fO++[(dd s num pos pd ts pl,.slice cy ts.length bT)]) eW (w1.alloc (Obj.cells #[.string pd,.slice cy ts.length bT] 79)):=by
   refine⟨ey.kept ka (by simp),eY.da ka (by simp),cells_keptT aX ka (by simp),heap_alloc_new _ _,own_keptT (ax jE (by simp)) ka (by simp),((((Kept.refl _ w).alloc _).step dp (by simp;intro x hx;exact .inl (.inr hx))).alloc _),λ k e=>?_,bS,lN⟩;rcases br k e with h1 | h1
   ·exact .inl h1
   ·exact .inr (by simp at h1;omega)
  have HI:=hide hI;have JL:w.heap.size<w1.heap.size+1:=by omega
  clear dp ey eY jE br aX ka hI mW hr;go_wp2_with fail;refine (rtake_any s q num eW 8 b _ (ad HI).de hq dZ).mono ?_;rintro e w2 ⟨rfl,cN,fj⟩;have dw:=(ad HI).take cN fj;have nO:=cN.size;rw[World.size_alloc] at nO;clear HI cN fj;obtain⟨d0,g0⟩:=block_cells dw.hd 0;obtain⟨d1,g1⟩:=block_cells dw.hd 1
  cases h8:(ae s q).1==8 with
  | true=>
   have xB:(ae s q).1=8:=(by simpa using h8);have e8:rtake s q 8=(ae s q).2.2:=(by unfold rtake;rw[if_pos h8]);rw[e8] at dw;obtain⟨a0,f0⟩:=block_cells dw.res 0;obtain⟨a1,f1⟩:=block_cells dw.res 1;obtain⟨a2,f2⟩:=block_cells dw.res 2;have iT:=hide ((ad HP).trans (if_pos xB));have fR:=hide dw;clear HP h8 xB e8 dw;go_wp2_with fail;obtain⟨q0,q1,q2⟩:=set3 a0 a1 a2 (.string pd) (.slice cy ts.length bT) (.slice none 0 0);have k3:=kept3 w2 w.heap.size (.string pd) (.slice cy ts.length bT) (.slice none 0 0);refine bodyPost_ret (v:=.tuple #[.agg #[.string pd,.slice cy ts.length bT,.slice none 0 0],.bool true]) (by simp[results,Tryz.results74,go_sem,q0,q1,q2]) rfl ?_;rw[ad iT];obtain⟨z1,z2,z3,z4⟩:=(ad fR).ends k3;exact⟨_,_,_,_,_,_,_,eW,rfl,z1,z2,(ad fR).at_,λ _=>⟨[],_,rfl,z3,by simp,by simp,z4,⟨World.ownsRow_nil _ _ _ _,by simp⟩,rfl,by simp,(scan_le s q hq).2⟩⟩
  | false=>
   have xB:¬ (ae s q).1=8:=(by simpa using h8);have e8:rtake s q 8=q:=(by unfold rtake;rw[if_neg (by rw[h8];decide)]);rw[e8] at dw;have iT:=hide ((ad HP).trans (if_neg xB));have fR:=hide dw;clear HP h8 xB e8 dw d0 d1 g0 g1;go_wp2_with fail;refine (rtake_any s q num eW 9 b _ (ad fR).de hq dZ).mono ?_;rintro e w3 ⟨rfl,fL,iG⟩;have jy:=(ad fR).take fL iG;have uO:=fL.size;clear fR fL iG
   cases h9:(ae s q).1==9 with
   | false=>
    have xC:¬ (ae s q).1=9:=(by simpa using h9);have e9:rtake s q 9=q:=(by unfold rtake;rw[if_neg (by rw[h9];decide)]);rw[e9] at jy;obtain⟨a0,f0⟩:=block_cells jy.res 0;obtain⟨a1,f1⟩:=block_cells jy.res 1;obtain⟨a2,f2⟩:=block_cells jy.res 2;have od:=hide ((ad iT).trans (if_neg xC));have kG:=hide jy;clear iT h9 xC e9 jy;go_wp2_with fail;obtain⟨q0,q1,q2⟩:=set3 a0 a1 a2 (.string { data:=#[] }) (.slice none 0 0) (.slice none 0 0);have k3:=kept3 w3 w.heap.size (.string { data:=#[] }) (.slice none 0 0) (.slice none 0 0);refine bodyPost_ret (v:=.tuple #[.agg #[.string { data:=#[] },.slice none 0 0,.slice none 0 0],.bool false]) (by simp[results,Tryz.results74,go_sem,q0,q1,q2]) rfl ?_;rw[ad od];obtain⟨z1,z2,z3,z4⟩:=(ad kG).ends k3;exact⟨_,_,_,_,_,_,_,eW,rfl,z1,z2,(ad kG).at_,λ e=>by cases e⟩
   | true=>
    have xC:(ae s q).1=9:=(by simpa using h9);have e9:rtake s q 9=(ae s q).2.2:=(by unfold rtake;rw[if_pos h9]);rw[e9] at jy;have od:=hide ((ad iT).trans (if_pos xC));have kG:=hide jy;have JN:=(scan_le s q hq).2;clear iT h9 xC e9 jy;go_wp2_with fail;refine (pbody_any w3 b s (ae s q).2.2 num eW _ (ad kG).de (ad kG).eh (by simp;omega) JN hs).mono ?_;rintro e w4 ⟨ab,nb,cb,Gn,ls,Gm,rfl,jP,fg,ju,uF,CZ,oX,pW⟩;have bJ:∀ x∈(b::eW.ownBlock.toList),x=b\/(dM w3 123 x/\dM w3 79 x/\dM w3 191 x):=λ x hx=>by
     rcases List.mem_cons.1 hx with rfl | hx
     ·exact .inl rfl
     ·exact .inr ⟨own_notT (ad kG).eh.row (by decide) x hx,own_notT (ad kG).eh.row (by decide) x hx,own_notT (ad kG).eh.row (by decide) x hx⟩
    have sg:lV w b s num mv w1.heap.size pd (.slice cy ts.length bT) ts (pbodyS s num 3 (ae s q).2.2 [] ((fO++[(dd s num pos pd ts pl,Value.slice cy ts.length bT)]).map (·.1))).2.1 Gm Gn w4:=by
     have i:=ad kG;have hz:=i.kept.size;refine⟨fg,ju,cells_keptT i.res jP (λ x hx=>?_),cells_keptT i.hd jP (λ x hx=>?_),own_keptT i.DM jP (λ x hx=>?_),i.kept.step jP (λ x hx=>?_),λ k e=>?_,bS,lN⟩
     ·rcases bJ x hx with rfl | hx
      ·exact .inl (by omega)
      ·exact .inr hx.1
     ·rcases bJ x hx with rfl | hx
      ·exact .inl (by omega)
      ·exact .inr hx.2.1
     ·rcases bJ x hx with rfl | hx
      ·exact .inl bS
      ·exact .inr hx.2.2
     ·rcases List.mem_cons.1 hx with rfl | hx
      ·exact .inl (by simp)
      ·rcases i.at_ x (by simpa using hx) with h1 | h1
       ·exact .inl (by simp[h1])
       ·exact .inr h1
     ·rcases oX k e with h1 | h1
      ·exact i.at_ k h1
      ·exact .inr (by omega)
    have uP:=jP.size;clear jP fg ju bJ oX;have C4:((fO++[(dd s num pos pd ts pl,Value.slice cy ts.length bT)]).map (·.1))=fO.map (·.1)++[dd s num pos pd ts pl]:=(by simp);rw[C4] at sg uF pW ⊢;have HY:=hide pW;have HM:=hide uF;have Dq:=(ad kG).kept.size;clear pW uF kG;obtain⟨d0,g0⟩:=block_cells sg.hd 0;obtain⟨d1,g1⟩:=block_cells sg.hd 1;obtain⟨a0,f0⟩:=block_cells sg.res 0;obtain⟨a1,f1⟩:=block_cells sg.res 1;obtain⟨a2,f2⟩:=block_cells sg.res 2;have wK:=hide sg;clear sg;go_wp2_with fail;obtain⟨q0,q1,q2⟩:=set3 a0 a1 a2 (.string pd) (.slice cy ts.length bT) (.slice ab nb cb);have k3:=kept3 w4 w.heap.size (.string pd) (.slice cy ts.length bT) (.slice ab nb cb);refine bodyPost_ret (v:=.tuple #[.agg #[.string pd,.slice cy ts.length bT,.slice ab nb cb],.bool (pbodyS s num 3 (ae s q).2.2 [] (fO.map (·.1)++[dd s num pos pd ts pl])).1]) (by simp[results,Tryz.results74,go_sem,q0,q1,q2]) rfl ?_;rw[ad od];obtain⟨z1,z2,z3,z4⟩:=(ad wK).ends k3;refine⟨_,_,_,_,_,_,_,Gn,rfl,z1,z2,(ad wK).at_,λ hy=>?_⟩;obtain⟨y1,y2,y3,y4⟩:=ad HY hy;exact⟨ls,Gm,rfl,z3,ad HM,by simp at CZ;omega,z4,lits_ends (y1.low Dq) (ad wK).res k3,y2,y3,y4⟩
end
section
open Go.RowKit
structure PR where
 R:PRule
 hv:Value
 bs:List (PLit × Value)
 bv:Value
def PR.cells (r:PR):V8:=[.string r.R.pd,r.hv,r.bv]
def prCells (rs:List PR):V8:=rs.flatMap PR.cells
theorem prCells_snoc (rs:List PR)(r:PR):prCells (rs++[r])=prCells rs++r.cells:=by simp[prCells]
structure ep (w:W8)(base:Nat)(r:PR):Prop where
 hd:w.ownsRow base 191 1 r.hv r.R.ts.length (ptCells r.R.ts)
 bo:cS w base r.bv r.bs
 eq:r.bs.map (·.1)=r.R.body
structure bQ (w:W8)(base:Nat)(rv:Value)(rs:List PR):Prop where
 row:w.ownsRow base 123 3 rv rs.length (prCells rs)
 each:∀ r∈rs,ep w base r
theorem ep.da {B:List Nat}{w w':W8}{base:Nat}{r:PR}(h:ep w base r)(k:Kept B w w')(hB:∀ x∈B,x<base\/(dM w 183 x/\dM w 191 x)):ep w' base r:=
 ⟨own_keptT h.hd k (λ x hx=>(hB x hx).imp id And.right),h.bo.da k hB,h.eq⟩
variable {r:PR} {base base':Nat} {w:W8}
theorem ep.low (h:ep w base r)(hb:base'<=base):ep w base' r:=⟨ax h.hd hb,h.bo.low hb,h.eq⟩
theorem bQ.da {B:List Nat}{w w':W8}{base:Nat}{rv:Value}{rs:List PR}(h:bQ w base rv rs)(k:Kept B w w')(hB:∀ x∈B,x<base\/(dM w 123 x/\dM w 183 x/\dM w 191 x)):bQ w' base rv rs:=
 ⟨own_keptT h.row k (λ x hx=>(hB x hx).imp id And.left),λ r hr=>(h.each r hr).da k (λ x hx=>(hB x hx).imp id And.right)⟩
variable {rs:List PR} {rv:Value}
theorem bQ.low (h:bQ w base rv rs)(hb:base'<=base):bQ w base' rv rs:=⟨ax h.row hb,λ r hr=>(h.each r hr).low hb⟩
variable {ms:List (PMen × Value)} {mv:Value}
theorem bL.low (h:bL w base mv ms)(hb:base'<=base):bL w base' mv ms:=⟨ax h.row hb,λ r hr=>ax (h.each r hr) hb⟩
structure iW (w:W8)(b:Nat)(s:B8)(rs:List PR)(p num:Nat)(ms:List (PMen × Value))(mv rv:Value)(wr:W8):Prop where
 de:dN wr b s p num mv
 hp:p<=s.size
 eh:bL wr (b+1) mv ms
 rules:bQ wr (b+1) rv rs
 res:wr.heap[w.heap.size]?=some (.cells #[.slice none 0 0,.slice none 0 0] 100 (0,0))
 below:Below w.heap.size w wr
 bw:w.heap.size<b
variable {wr w1:W8} {n:Nat}
theorem below_kept {B:List Nat}(h:Below n w wr)(k:Kept B wr w1)(hn:n<=wr.heap.size)(hB:∀ x∈B,n<=x):Below n w w1:=
 h.trans ⟨k.os,k.tape,k.output,k.size,λ i hi=>k.block i (Nat.lt_of_lt_of_le hi hn) (λ hm=>by have:=hB i hm;omega)⟩
variable {p b:Nat} {s:B8}
theorem iW.num {num:Nat}(h:iW w b s rs p num ms mv rv wr)(k:Nat):iW w b s rs p k ms mv rv (wr.setCell ⟨b,4,none⟩ (.int .i64 k)):=by
 have hb:=h.bw;have kk:Kept [b] wr (wr.setCell ⟨b,4,none⟩ (.int .i64 k)):=(Kept.refl [b] wr).setCell (by simp) _;obtain⟨q,c0,c1,c2,c3,c4,c5,fz⟩:=h.de;refine⟨⟨by simpa using q,?_,?_,?_,?_,bR c4,?_,λ o=>by simpa using fz o⟩,h.hp,h.eh.kept kk (by simp),h.rules.da kk (by simp),cells_keptT h.res kk (by simp;omega),below_kept h.below kk (by omega) (by simp;omega),hb⟩
 all_goals (rw[cs_other' (by omega)];assumption)
theorem iW.rule {num p':Nat}{ms':List (PMen × Value)}{gz:Value}(h:iW w b s rs p num ms mv rv wr)(k:Kept (b::mv.ownBlock.toList) wr w1)(hr:dN w1 b s p' num gz)(hp:p'<=s.size)(hm:bL w1 (b+1) gz ms'):iW w b s rs p' num ms' gz rv w1:=by
 have hb:=h.bw;have hz:=h.de.lt;have hB:∀ x∈(b::mv.ownBlock.toList),x=b\/(b+1<=x/\dM wr 123 x/\dM wr 183 x/\dM wr 191 x/\dM wr 100 x):=λ x hx=>by
  rcases List.mem_cons.1 hx with rfl | hx
  ·exact .inl rfl
  ·exact .inr ⟨(h.eh.row.lt x (by simpa using hx)).1,own_notT h.eh.row (by decide) x hx,own_notT h.eh.row (by decide) x hx,own_notT h.eh.row (by decide) x hx,own_notT h.eh.row (by decide) x hx⟩
 refine⟨hr,hp,hm,h.rules.da k (λ x hx=>?_),cells_keptT h.res k (λ x hx=>?_),below_kept h.below k (by omega) (λ x hx=>?_),hb⟩
 ·rcases hB x hx with rfl | h1
  ·exact .inl (by omega)
  ·exact .inr ⟨h1.2.1,h1.2.2.1,h1.2.2.2.1⟩
 ·rcases hB x hx with rfl | h1
  ·exact .inl (by omega)
  ·exact .inr h1.2.2.2.2
 ·rcases hB x hx with rfl | h1 <;> omega
theorem iW.append {num:Nat}{W w5:W8}(h:iW w b s rs p num ms mv rv w1)(kW:Kept [] w1 W){Gv:Value}(hr:ep w1 (b+1) r)
  (aI:w5.ownsRow (b+1) 123 3 Gv (rs.length+1) (prCells rs++r.cells)) (hg:W.grownBy w5 rv.ownBlock):iW w b s (rs++[r]) p num ms mv Gv w5:=by
 have hb:=h.bw;have hz:=h.de.lt;have k5:Kept rv.ownBlock.toList w1 w5:=((kW.mono (C:=rv.ownBlock.toList) (by simp))).grown hg (λ k e=>.inr (by simp[e]));have aF:∀ x∈rv.ownBlock.toList,b+1<=x:=λ x hx=>(h.rules.row.lt x (by simpa using hx)).1
 have lH:∀ x∈rv.ownBlock.toList,∀ e,123≠e->dM w1 e x:=λ x hx e he=>own_notT h.rules.row he x hx
 refine⟨h.de.kept k5 (λ hm=>by have:=aF b hm;omega),h.hp,h.eh.da k5 (λ x hx=>.inr ⟨lH x hx _ (by decide),lH x hx _ (by decide)⟩),⟨?_,λ y hy=>?_⟩,cells_keptT h.res k5 (λ x hx=>.inr (lH x hx _ (by decide))),below_kept h.below k5 (by omega) (λ x hx=>by have:=aF x hx;omega),hb⟩
 ·rw[prCells_snoc,List.length_append];exact aI
 ·rcases List.mem_append.1 hy with hy | hy
  ·exact (h.rules.each y hy).da k5 (λ x hx=>.inr ⟨lH x hx _ (by decide),lH x hx _ (by decide)⟩)
  ·simp at hy;subst hy;exact hr.da k5 (λ x hx=>.inr ⟨lH x hx _ (by decide),lH x hx _ (by decide)⟩)
def RulesPost (w:W8)(s:B8)(P:Bool × Nat × List PRule × List PMen)(e:Ending)(w':W8):Prop:=
 Below w.heap.size w w'/\(P.1=false->e=.returned (.tuple #[.agg #[.slice none 0 0,.slice none 0 0],.int .i64 (ae s P.2.1).2.1,.bool false])) /\
 (P.1=true->∃ (a:O8) (n c:Nat) (a':O8) (n' c':Nat) (rs:List PR) (ms:List (PMen × Value)),e=.returned (.tuple #[.agg #[.slice a n c,.slice a' n' c'],.int .i64 0,.bool true])/\bQ w' w.heap.size (.slice a n c) rs/\rs.map (·.R)=P.2.2.1/\bL w' w.heap.size (.slice a' n' c') ms/\ms.map (·.1)=P.2.2.2/\rs.length<=30/\ms.length<=120)
theorem infoPRule:(Tryz.prog.info? 123).map (λ i=>(i.zero,i.size,i.bytes))=some (some (.agg #[.string { data:=#[] },.slice none 0 0,.slice none 0 0]),3,64):=by kernel_rfl
theorem pr_cell (w1:W8)(o:Obj)(r:PR)(j:Nat)(u:Value)(h:r.cells[j]?=some u):((w1.alloc o).alloc (Obj.cells #[.string r.R.pd,r.hv,r.bv] 123)).cell? ((⟨w1.heap.size+1,0,none⟩:Addr).add j)=some u:=by
 have e:(⟨w1.heap.size+1,0,none⟩:Addr).add j=⟨w1.heap.size+1,j,none⟩:=by unfold Addr.add;split <;> simp_all
 rw[e,World.cell?_alloc_at _ _ _ _ (by simp)];simpa[PR.cells] using h
theorem pr_one (R:PRule)(a:O8)(n c:Nat)(a':O8)(n' c':Nat)(bs:List (PLit × Value)):∀ u∈(PR.mk R (.slice a n c) bs (.slice a' n' c')).cells,u.oneCell'=true:=by
 intro u hu;simp[PR.cells] at hu;rcases hu with rfl | rfl | rfl <;> rfl
theorem q_start (aX:Below (w.alloc (Obj.cells #[.slice none 0 0,.slice none 0 0] 100)).heap.size (w.alloc (Obj.cells #[.slice none 0 0,.slice none 0 0] 100)) w1):
  iW w w1.heap.size s [] 0 0 [] (.slice none 0 0) (.slice none 0 0) (w1.alloc (Obj.cells #[.string s,.int .i64 (ae s 0).1,.int .i64 (ae s 0).2.1,.int .i64 (ae s 0).2.2,.int .i64 0,.slice none 0 0] 163)):=by
 have hz:=aX.size;simp at hz;refine⟨⟨by simp,?_,?_,?_,?_,?_,?_,?_⟩,Nat.zero_le _,⟨World.ownsRow_nil _ _ _ _,by simp⟩,⟨World.ownsRow_nil _ _ _ _,by simp⟩,?_,?_,by omega⟩
 all_goals first | (rw[World.cell?_alloc_at _ _ _ _ rfl];rfl) | (intro o;rw[World.frozen?_alloc_at _ _ _ _ rfl];done) | skip
 ·rw[Below.heap_alloc _ _ _ (by omega),aX.block _ (by simp)];exact heap_alloc_new w _
 ·exact ((B9.alloc L9 _).trans (aX.mono (by simp))).alloc (by omega) _
theorem set2' {u0 u1:Value}(h0:w1.cell? ⟨n,0,none⟩=some u0)(h1:w1.cell? ⟨n,1,none⟩=some u1)(v0 v1:Value):((w1.setCell ⟨n,0,none⟩ v0).setCell ⟨n,1,none⟩ v1).cell? ⟨n,0,none⟩=some v0/\((w1.setCell ⟨n,0,none⟩ v0).setCell ⟨n,1,none⟩ v1).cell? ⟨n,1,none⟩=some v1:=
 ⟨by rw[cs_other' (by omega)];exact bR h0,bR (by rw[cs_other' (by omega)];exact h1)⟩
theorem prules_step (s:B8)(p:Nat)(rs:List PRule)(ms:List PMen)(h:rs.length<=30):prulesS s (31-rs.length) p rs ms =
  if (ae s p).1=0 then (true,p,rs,ms)
  else if rs.length=30 then (false,p,rs,ms)
  else if (pruleS s rs.length p ms).1 then prulesS s (31-(rs.length+1)) (pruleS s rs.length p ms).2.1 (rs++[(pruleS s rs.length p ms).2.2.1]) (pruleS s rs.length p ms).2.2.2
  else (false,(pruleS s rs.length p ms).2.1,rs,(pruleS s rs.length p ms).2.2.2):=by
 have e:31-rs.length=(31-(rs.length+1))+1:=by omega
 rw[e,prulesS]
theorem prules_any (w:W8)(s:B8)(hs:s.size<=2000000):
  Calls Tryz.prog 45 #[.string s] w (RulesPost w s (pparsed s)):=by
 have dZ:s.size<=maxLen:=by unfold maxLen;omega
 obtain⟨i0,hi,dD,cD,cd⟩:=info_parts infoPRule;go_enter Tryz.func45,Tryz.ntmps45;go_wp2_with fail;refine (scan_any' s 0 (Nat.zero_le _) dZ _).mono ?_;rintro e w1 ⟨rfl,aX⟩;have dj:=q_start (s:=s) aX;clear aX;go_wp2_with fail
 go_loopg [6] 32 (λ g rv wr=>∃ (rs:List PR) (ms:List (PMen × Value)) (p num:Nat) (mv:Value),rs.length<=30/\31-rs.length<=g/\ms.length<=4*rs.length/\iW w w1.heap.size s rs p num ms mv rv wr/\pparsed s=prulesS s (31-rs.length) p (rs.map (·.R)) (ms.map (·.1)))
 exact⟨[],[],0,0,_,by simp,by simp,by simp,dj,rfl⟩
 case round=>
  clear dj;obtain⟨rs,ms,p,num,mv,hl,hg,ed,hinv,bh⟩:=hrel;obtain⟨a1,kU,rfl⟩:=own_slice hinv.rules.row;obtain⟨a2,tQ,rfl⟩:=own_slice hinv.eh.row;have dj:=prules_step s p (rs.map (·.R)) (ms.map (·.1)) (by simpa using hl);rw[List.length_map] at dj;have HF:=hide (bh.trans dj);clear bh dj;have dQ:=hinv.hp;obtain⟨bS,c0,c1,c2,c3,c4,c5,fz⟩:=hinv.de;have ei:=hinv.bw;obtain⟨r0,f0⟩:=block_cells hinv.res 0;obtain⟨r1,f1⟩:=block_cells hinv.res 1;have HI:=hide hinv;clear hinv
  by_cases h0:(ae s p).1=0
  ·have BM:((ae s p).1 != 0)=false:=(by simp[h0]);have gd:=hide ((ad HF).trans (if_pos h0));have HE:=hide h0;clear HF h0;go_wp2_with fail;obtain⟨q0,q1⟩:=set2' r0 r1 (.slice a1 rs.length kU) (.slice a2 ms.length tQ);refine bodyPost_ret (v:=.tuple #[.agg #[.slice a1 rs.length kU,.slice a2 ms.length tQ],.int .i64 0,.bool true]) (by simp[results,Tryz.results45,go_sem,q0,q1]) rfl ?_;have kk:=ra_set wr w.heap.size (.slice a1 rs.length kU) (.slice a2 ms.length tQ);have i:=ad HI;have jQ:∀ e,100≠e->dM wr e w.heap.size:=λ e he=>notT_of i.res he
   rw[ad gd];refine⟨below_kept i.below kk (by omega) (by simp),λ e=>(by cases e),λ _=>⟨_,_,_,_,_,_,rs,ms,rfl,(i.rules.low (by omega)).da kk (λ x hx=>?_),rfl,(i.eh.low (by omega)).da kk (λ x hx=>?_),rfl,hl,by omega⟩⟩
   ·simp at hx;subst hx;exact .inr ⟨jQ _ (by decide),jQ _ (by decide),jQ _ (by decide)⟩
   ·simp at hx;subst hx;exact .inr ⟨jQ _ (by decide),jQ _ (by decide)⟩
  ·have BM:((ae s p).1 != 0)=true:=(by simp[h0]);have gd:=hide ((ad HF).trans (if_neg h0));have HE:=hide h0;clear HF h0
   by_cases h30:rs.length=30
   ·have BN:((rs.length:Int)==30)=true:=(by simp;omega);have bK:=hide ((ad gd).trans (if_pos h30));clear gd h30;go_wp2_with fail
    go_region
    all_goals
     go_wp2_with fail;obtain⟨q0,q1⟩:=set2' r0 r1 (.slice none 0 0) (.slice none 0 0);refine bodyPost_ret (v:=.tuple #[.agg #[.slice none 0 0,.slice none 0 0],.int .i64 (ae s p).2.1,.bool false]) (by simp[results,Tryz.results45,go_sem,q0,q1]) rfl ?_;rw[ad bK];refine⟨below_kept (ad HI).below ((ra_set wr w.heap.size (.slice none 0 0) (.slice none 0 0)).drew) (by omega) (by simp),λ _=>rfl,λ e=>(by cases e)⟩
   ·have BN:((rs.length:Int)==30)=false:=(by simp;omega);have bK:=hide ((ad gd).trans (if_neg h30));have iH:rs.length<30:=(by omega);have HQ:=hide ((ad HI).num rs.length);clear gd h30;go_wp2_with fail;refine (prule_any _ w1.heap.size s p rs.length _ ms (ad HQ).de (ad HQ).eh (by omega) dQ hs).mono ?_;rintro e w2 ⟨x,a,n,c,a',n',c',gz,rfl,cN,fj,xW,pV⟩;clear c0 c1 c2 c3 c4 c5 fz r0 r1 f0 f1;have kt:=cN.size;rw[World.size_setCell] at kt
    cases hP:(pruleS s rs.length p (ms.map (·.1))).1 with
    | false=>
     have dF:=hide ((ad bK).trans (if_neg (by rw[hP];decide)))
     have zb:w2.heap[w.heap.size]?=some (.cells #[.slice none 0 0,.slice none 0 0] 100 (0,0)):=cells_keptT (ad HQ).res cN (λ x hx=>by
      rcases List.mem_cons.1 hx with rfl | hx
      ·exact .inl (by omega)
      ·exact .inr (own_notT (ad HQ).eh.row (by decide) x hx))
     have fJ:Below w.heap.size w w2:=below_kept (ad HQ).below cN (by simp;omega) (λ x hx=>by
      rcases List.mem_cons.1 hx with rfl | hx
      ·omega
      ·have:=((ad HQ).eh.row.lt x (by simpa using hx)).1;omega)
     have ka:=(Kept.refl [] w2).alloc (Obj.cells #[.string x,.slice a n c,.slice a' n' c'] 123);obtain⟨bS,c0,c1,c2,c3,c4,c5,fz⟩:=fj.kept ka (by simp);obtain⟨r0,f0⟩:=block_cells (cells_keptT zb ka (by simp)) 0;obtain⟨r1,f1⟩:=block_cells (cells_keptT zb ka (by simp)) 1;have HB:=hide fJ;clear pV xW cN fj bK hP HQ HI zb ka fJ;go_wp2_with fail
     go_region
     all_goals
      go_wp2_with fail;obtain⟨q0,q1⟩:=set2' r0 r1 (.slice none 0 0) (.slice none 0 0);refine bodyPost_ret (v:=.tuple #[.agg #[.slice none 0 0,.slice none 0 0],.int .i64 (ae s (pruleS s rs.length p (ms.map (·.1))).2.1).2.1,.bool false]) (by simp[results,Tryz.results45,go_sem,q0,q1]) rfl ?_;rw[ad dF];refine⟨below_kept ((ad HB).alloc (by omega) _) ((ra_set _ w.heap.size (.slice none 0 0) (.slice none 0 0)).drew) (by simp;omega) (by simp),λ _=>rfl,λ e=>(by cases e)⟩
    | true=>
     have dF:=hide ((ad bK).trans (if_pos hP));obtain⟨bs,ms',rfl,eG,yM,JA,jV,lL,yc,IU,nJ⟩:=pV hP;have B4:=(ad HQ).rule cN fj nJ eG;have ak:ep w2 (w1.heap.size+1) ⟨(pruleS s rs.length p (ms.map (·.1))).2.2.1,.slice a n c,bs,.slice a' n' c'⟩:=⟨ax jV (by simp;omega),lL.low (by simp;omega),yc⟩;have bz:=B4.rules.row;have Ei:=hide B4;have bp:=hide ak;have Hd:=hide yM;clear pV xW cN fj eG jV lL yc B4 ak bK hP HQ HI yM;go_wp2_with (at_builtin;refine wpList_append_own _ rfl _ _ 75 rfl (w1.heap.size+1) 123 i0 _ 3 64 Tryz.underlying75 hi dD cD cd rfl (by decide) _ _ _ rfl ((bz.alloc _).alloc _) ⟨w2.heap.size+1,0,none⟩ 1 1 (PR.mk (pruleS s rs.length p (ms.map (·.1))).2.2.1 (.slice a n c) bs (.slice a' n' c')).cells rfl rfl (pr_cell w2 _ (PR.mk (pruleS s rs.length p (ms.map (·.1))).2.2.1 (.slice a n c) bs (.slice a' n' c'))) (pr_one _ _ _ _ _ _ _ _) (by unfold maxLen;omega) (by omega) (by simp;omega) ?_);intro v5 w5 aL dh dr;clear dr;obtain⟨a5,gF,rfl⟩:=own_slice aL;have EY:=(ad Ei).append (((Kept.refl [] w2).alloc _).alloc _) (ad bp) aL dh;have Hp:=hide EY;clear aL dh bz EY Ei bp;go_wp2_with fail;go_roundg (31-(rs.length+1));exact⟨_,ms',_,_,_,by simp;omega,by simp,by simp;omega,ad Hp,by rw[ad dF,ad Hd];simp⟩;omega
end
end Go.Proofs.YtldkpahaocjdpaaGreat
