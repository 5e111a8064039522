/-
  The program's reader: rule, at every text and place.
-/
import Derived.Test.YtldkpahaocjdpaaGreatD10
set_option maxHeartbeats 16000000
set_option maxRecDepth 1000000
namespace Go.Proofs.YtldkpahaocjdpaaGreat
section
open Go.RowKit
variable {fr:Nat × Nat} {e:TypeId} {c:Array Value} {n:Nat} {w:W8}
theorem zit {e':TypeId}(hb:w.heap[n]?=some (.cells c e fr))(bG:e≠e'):aY w e' n:=by
 intro c' fr' h;rw[hb] at h;injection h with h
 injection h with _ h _
 exact bG h
variable {w':W8}
theorem yS {B:List Nat}(hb:w.heap[n]?=some (.cells c e fr))(k:yC B w w')(hB:∀ x∈B,x≠n\/aY w e x):w'.heap[n]?=some (.cells c e fr):=by
 rw[k.block n (Array.getElem?_eq_some_iff.1 hb).1 (λ hm=>by
  rcases hB n hm with h1 | h1
  ·exact h1 rfl
  ·exact h1 _ _ hb)]
 exact hb
def z5d (w:W8)(b:Nat)(s:B8)(num:Nat)(mv:Value)(n0:Nat)(P:Bool × Nat × yG × List yU)(e:Ending)(w':W8):Prop:=
 ∃ (x:B8) (a:O8) (n c:Nat) (a':O8) (n' c':Nat) (gm:Value),e=.returned (.tuple #[.agg #[.string x,.slice a n c,.slice a' n' c'],.bool P.1])/\yC (b::mv.ownBlock.toList) w w'/\dN w' b s P.2.1 num gm/\(∀ k,gm.ownBlock=some k->mv.ownBlock=some k\/w.heap.size<=k) /\
  (P.1=true->∃ (bs:List (yX × Value)) (ms':List (yU × Value)),x=P.2.2.1.pd/\aC w' (b+1) gm ms'/\ms'.map (·.1)=P.2.2.2/\ms'.length<=n0+4/\w'.ownsRow w.heap.size 191 1 (.slice a n c) P.2.2.1.ts.length (yP P.2.2.1.ts)/\aK w' w.heap.size (.slice a' n' c') bs/\bs.map (·.1)=P.2.2.1.body/\bs.length<=3/\P.2.1<=s.size)
structure uP (w:W8)(b:Nat)(s:B8)(num:Nat)(mv:Value)(h:Nat)(pd:B8)(tv:Value)(ts:List (Bool × B8))(p:Nat)(ms:List (yU × Value))(eU:Value)(wr:W8):Prop where
 dg:dN wr b s p num eU
 eh:aC wr (b+1) eU ms
 res:wr.heap[w.heap.size]?=some (.cells #[.string { data:=#[] },.slice none 0 0,.slice none 0 0] 123 (0,0))
 hd:wr.heap[h]?=some (.cells #[.string pd,tv] 79 (0,0))
 DQ:wr.ownsRow w.heap.size 191 1 tv ts.length (yP ts)
 kept:yC (b::mv.ownBlock.toList) w wr
 at_:∀ k,eU.ownBlock=some k->mv.ownBlock=some k\/w.heap.size<=k
 bw:b<w.heap.size
 hw:w.heap.size<h
variable {wr w1:W8} {eU tv mv:Value} {ms:List (yU × Value)} {p h num b:Nat} {ts:List (Bool × B8)} {pd s:B8}
theorem uP.take {p':Nat}(i:uP w b s num mv h pd tv ts p ms eU wr)(k:yC [b] wr w1)(hr:dN w1 b s p' num eU):uP w b s num mv h pd tv ts p' ms eU w1:=
 have h1:=i.bw;have h2:=i.hw
 ⟨hr,i.eh.kept k (by simp),yS i.res k (by simp;omega),yS i.hd k (by simp;omega),za4 i.DQ k (by simp;omega),i.kept.step k (by simp),i.at_,i.bw,i.hw⟩
theorem uP.ends (i:uP w b s num mv h pd tv ts p ms eU wr)(k:yC [w.heap.size] wr w1):
  yC (b::mv.ownBlock.toList) w w1/\dN w1 b s p num eU/\aC w1 (b+1) eU ms/\w1.ownsRow w.heap.size 191 1 tv ts.length (yP ts):=by
 have h1:=i.bw;refine⟨i.kept.step k (by simp),i.dg.kept k (by simp;omega),i.eh.cZ k (λ x hx=>?_),vR i.DQ k (λ x hx=>?_)⟩
 ·simp at hx;subst hx;exact .inr ⟨zit i.res (by decide),zit i.res (by decide)⟩
 ·simp at hx;subst hx;exact .inr (zit i.res (by decide))
theorem z1w {base:Nat}{bv:Value}{ls:List (yX × Value)}(h:aK w base bv ls)(hb:w.heap[n]?=some (.cells c 123 (0,0)))(k:yC [n] w w'):aK w' base bv ls:=
 h.cZ k (λ x hx=>by simp at hx;subst hx;exact .inr ⟨zit hb (by decide),zit hb (by decide)⟩)
theorem z2y (w:W8)(b:Nat)(s:B8)(pos num:Nat)(mv:Value)(fE:List (yU × Value))(h:dN w b s pos num mv)(eX:aC w (b+1) mv fE)(ed:fE.length<=800)(bn:pos<=s.size)(hs:s.size<=2000000):
  Calls Tryz.prog 74 #[.pointer (some ⟨b,0,none⟩)] w (z5d w b s num mv fE.length (xG s num pos (fE.map (·.1)))):=by
 have dQ:s.size<=maxLen:=by unfold maxLen;omega
 have h0:=h.kept ((yC.refl [] w).alloc (.cells #[.string { data:=#[] },.slice none 0 0,.slice none 0 0] 123)) (by simp);have fR:=eX.kept ((yC.refl [] w).alloc (.cells #[.string { data:=#[] },.slice none 0 0,.slice none 0 0] 123)) (by simp);obtain⟨bP,c0,c1,c2,c3,c4,c5,fz⟩:=h;have aL:(w.alloc (.cells #[.string { data:=#[] },.slice none 0 0,.slice none 0 0] 123)).heap[w.heap.size]?=some (.cells #[.string { data:=#[] },.slice none 0 0,.slice none 0 0] 123 (0,0)):=heap_alloc_new w _;have eS:=zC aL;have hq:=zwi bn;have nV:=zC (λ k (e:mv.ownBlock=some k)=>(eX.row.lt k e).2);have HP:xG s num pos (fE.map (·.1))=_:=xG.eq_1 s num pos (fE.map (·.1));have HP:=zC HP;clear aL eX;go_enter Tryz.func74,Tryz.ntmps74;go_wp2_with fail;refine (zlr _ b s pos num mv false (zD s pos).2.1 fE h0 fR (by omega) bn hs).mono ?_;intro e w1 hpost;clear c0 c1 c2 c3 c4 c5 fz h0 fR
 cases hr:yV s pos with
 | no q=>
  rw[hr] at hpost hq HP;obtain⟨rfl,de,ez⟩:=hpost;have aT:=yS (zA eS) de (by simp;omega);obtain⟨a0,f0⟩:=zB aT 0;obtain⟨a1,f1⟩:=zB aT 1;obtain⟨a2,f2⟩:=zB aT 2;have lI:w.heap.size<w1.heap.size:=by have:=de.size;simp at this;omega
  have HK:=zC de;have HR:=zC ez;clear de ez hr aT eS;go_wp2_with fail;obtain⟨q0,q1,q2⟩:=yca a0 a1 a2 (.string { data:=#[] }) (.slice none 0 0) (.slice none 0 0);have q0:=zpv q0;have q1:=zpv q1;have q2:=zpv q2;have k3:=(zx3 w1 w.heap.size (.string { data:=#[] }) (.slice none 0 0) (.slice none 0 0)).alloc (Obj.cells #[.string { data:=#[] },.slice none 0 0] 79);refine bodyPost_ret (v:=.tuple #[.agg #[.string { data:=#[] },.slice none 0 0,.slice none 0 0],.bool false]) (by simp[results,Tryz.results74,go_sem,q0,q1,q2]) rfl ?_;rw[zA HP];exact⟨_,_,_,_,_,_,_,mv,rfl,(((yC.refl _ w).alloc _).step (zA HK) (by simp)).step k3 (by simp),(zA HR).kept k3 (by simp;omega),λ k e=>.inl e,λ e=>by cases e⟩
 | yes q pd ts pl=>
  rw[hr] at hpost hq HP;obtain⟨tv,eU,rfl,de,ez,fa,iN,bq⟩:=hpost;obtain⟨ag,bT,rfl⟩:=zE iN;have lI:w.heap.size<w1.heap.size:=by have:=de.size;simp at this;omega
  have aT:=yS (zA eS) de (λ x hx=>by
   rcases List.mem_cons.1 hx with rfl | hx
   ·exact .inl (by omega)
   ·have:=zA nV x (by simpa using hx);exact .inl (by omega))
  have ka:=(yC.refl [] w1).alloc (Obj.cells #[.string pd,.slice ag ts.length bT] 79);have hI:uP w b s num mv w1.heap.size pd (.slice ag ts.length bT) ts q (fE++[(dc s num pos pd ts pl,.slice ag ts.length bT)]) eU (w1.alloc (Obj.cells #[.string pd,.slice ag ts.length bT] 79)):=by
   refine⟨ez.kept ka (by simp),fa.cZ ka (by simp),yS aT ka (by simp),heap_alloc_new _ _,vR (zI iN (by simp)) ka (by simp),((((yC.refl _ w).alloc _).step de (by simp;intro x hx;exact .inl (.inr hx))).alloc _),λ k e=>?_,bP,lI⟩;rcases bq k e with h1 | h1
   ·exact .inl h1
   ·exact .inr (by simp at h1;omega)
  have HI:=zC hI;have JW:w.heap.size<w1.heap.size+1:=by omega
  clear de ez fa iN bq aT ka hI eS hr;go_wp2_with fail;refine (yQ s q num eU 8 b _ (zA HI).dg hq dQ).mono ?_;rintro e w2 ⟨rfl,cN,fc⟩;have dw:=(zA HI).take cN fc;have nK:=cN.size;rw[World.size_alloc] at nK;clear HI cN fc;obtain⟨d0,g0⟩:=zB dw.hd 0;obtain⟨d1,g1⟩:=zB dw.hd 1
  cases h8:(zD s q).1==8 with
  | true=>
   have La:(zD s q).1=8:=(by simpa using h8);have e8:yB s q 8=(zD s q).2.2:=(by unfold yB;rw[if_pos h8]);rw[e8] at dw;obtain⟨a0,f0⟩:=zB dw.res 0;obtain⟨a1,f1⟩:=zB dw.res 1;obtain⟨a2,f2⟩:=zB dw.res 2;have iT:=zC ((zA HP).trans (if_pos La));have fG:=zC dw;clear HP h8 La e8 dw;go_wp2_with fail;obtain⟨q0,q1,q2⟩:=yca a0 a1 a2 (.string pd) (.slice ag ts.length bT) (.slice none 0 0);have k3:=zx3 w2 w.heap.size (.string pd) (.slice ag ts.length bT) (.slice none 0 0);refine bodyPost_ret (v:=.tuple #[.agg #[.string pd,.slice ag ts.length bT,.slice none 0 0],.bool true]) (by simp[results,Tryz.results74,go_sem,q0,q1,q2]) rfl ?_;rw[zA iT];obtain⟨z1,z2,z3,z4⟩:=(zA fG).ends k3;exact⟨_,_,_,_,_,_,_,eU,rfl,z1,z2,(zA fG).at_,λ _=>⟨[],_,rfl,z3,by simp,by simp,z4,⟨World.ownsRow_nil _ _ _ _,by simp⟩,rfl,by simp,(xD s q hq).2⟩⟩
  | false=>
   have La:¬ (zD s q).1=8:=(by simpa using h8);have e8:yB s q 8=q:=(by unfold yB;rw[if_neg (by rw[h8];decide)]);rw[e8] at dw;have iT:=zC ((zA HP).trans (if_neg La));have fG:=zC dw;clear HP h8 La e8 dw d0 d1 g0 g1;go_wp2_with fail;refine (yQ s q num eU 9 b _ (zA fG).dg hq dQ).mono ?_;rintro e w3 ⟨rfl,fB,iF⟩;have jx:=(zA fG).take fB iF;have uR:=fB.size;clear fG fB iF
   cases h9:(zD s q).1==9 with
   | false=>
    have Lb:¬ (zD s q).1=9:=(by simpa using h9);have e9:yB s q 9=q:=(by unfold yB;rw[if_neg (by rw[h9];decide)]);rw[e9] at jx;obtain⟨a0,f0⟩:=zB jx.res 0;obtain⟨a1,f1⟩:=zB jx.res 1;obtain⟨a2,f2⟩:=zB jx.res 2;have nX:=zC ((zA iT).trans (if_neg Lb));have ku:=zC jx;clear iT h9 Lb e9 jx;go_wp2_with fail;obtain⟨q0,q1,q2⟩:=yca a0 a1 a2 (.string { data:=#[] }) (.slice none 0 0) (.slice none 0 0);have k3:=zx3 w3 w.heap.size (.string { data:=#[] }) (.slice none 0 0) (.slice none 0 0);refine bodyPost_ret (v:=.tuple #[.agg #[.string { data:=#[] },.slice none 0 0,.slice none 0 0],.bool false]) (by simp[results,Tryz.results74,go_sem,q0,q1,q2]) rfl ?_;rw[zA nX];obtain⟨z1,z2,z3,z4⟩:=(zA ku).ends k3;exact⟨_,_,_,_,_,_,_,eU,rfl,z1,z2,(zA ku).at_,λ e=>by cases e⟩
   | true=>
    have Lb:(zD s q).1=9:=(by simpa using h9);have e9:yB s q 9=(zD s q).2.2:=(by unfold yB;rw[if_pos h9]);rw[e9] at jx;have nX:=zC ((zA iT).trans (if_pos Lb));have ku:=zC jx;have J0:=(xD s q hq).2;clear iT h9 Lb e9 jx;go_wp2_with fail;refine (z2q w3 b s (zD s q).2.2 num eU _ (zA ku).dg (zA ku).eh (by simp;omega) J0 hs).mono ?_;rintro e w4 ⟨ab,nb,cb,GB,ls,GA,rfl,bz,eY,jr,uH,C4,oR,pN⟩;have bG:∀ x∈(b::eU.ownBlock.toList),x=b\/(aY w3 123 x/\aY w3 79 x/\aY w3 191 x):=λ x hx=>by
     rcases List.mem_cons.1 hx with rfl | hx
     ·exact .inl rfl
     ·exact .inr ⟨vH (zA ku).eh.row (by decide) x hx,vH (zA ku).eh.row (by decide) x hx,vH (zA ku).eh.row (by decide) x hx⟩
    have rZ:uP w b s num mv w1.heap.size pd (.slice ag ts.length bT) ts (vB s num 3 (zD s q).2.2 [] ((fE++[(dc s num pos pd ts pl,Value.slice ag ts.length bT)]).map (·.1))).2.1 GA GB w4:=by
     have i:=zA ku;have hz:=i.kept.size;refine⟨eY,jr,yS i.res bz (λ x hx=>?_),yS i.hd bz (λ x hx=>?_),vR i.DQ bz (λ x hx=>?_),i.kept.step bz (λ x hx=>?_),λ k e=>?_,bP,lI⟩
     ·rcases bG x hx with rfl | hx
      ·exact .inl (by omega)
      ·exact .inr hx.1
     ·rcases bG x hx with rfl | hx
      ·exact .inl (by omega)
      ·exact .inr hx.2.1
     ·rcases bG x hx with rfl | hx
      ·exact .inl bP
      ·exact .inr hx.2.2
     ·rcases List.mem_cons.1 hx with rfl | hx
      ·exact .inl (by simp)
      ·rcases i.at_ x (by simpa using hx) with h1 | h1
       ·exact .inl (by simp[h1])
       ·exact .inr h1
     ·rcases oR k e with h1 | h1
      ·exact i.at_ k h1
      ·exact .inr (by omega)
    have uS:=bz.size;clear bz eY jr bG oR;have C7:((fE++[(dc s num pos pd ts pl,Value.slice ag ts.length bT)]).map (·.1))=fE.map (·.1)++[dc s num pos pd ts pl]:=(by simp);rw[C7] at rZ uH pN ⊢;have HY:=zC pN;have HM:=zC uH;have Dt:=(zA ku).kept.size;clear pN uH ku;obtain⟨d0,g0⟩:=zB rZ.hd 0;obtain⟨d1,g1⟩:=zB rZ.hd 1;obtain⟨a0,f0⟩:=zB rZ.res 0;obtain⟨a1,f1⟩:=zB rZ.res 1;obtain⟨a2,f2⟩:=zB rZ.res 2;have wL:=zC rZ;clear rZ;go_wp2_with fail;obtain⟨q0,q1,q2⟩:=yca a0 a1 a2 (.string pd) (.slice ag ts.length bT) (.slice ab nb cb);have k3:=zx3 w4 w.heap.size (.string pd) (.slice ag ts.length bT) (.slice ab nb cb);refine bodyPost_ret (v:=.tuple #[.agg #[.string pd,.slice ag ts.length bT,.slice ab nb cb],.bool (vB s num 3 (zD s q).2.2 [] (fE.map (·.1)++[dc s num pos pd ts pl])).1]) (by simp[results,Tryz.results74,go_sem,q0,q1,q2]) rfl ?_;rw[zA nX];obtain⟨z1,z2,z3,z4⟩:=(zA wL).ends k3;refine⟨_,_,_,_,_,_,_,GB,rfl,z1,z2,(zA wL).at_,λ hy=>?_⟩;obtain⟨y1,y2,y3,y4⟩:=zA HY hy;exact⟨ls,GA,rfl,z3,zA HM,by simp at C4;omega,z4,z1w (y1.low Dt) (zA wL).res k3,y2,y3,y4⟩
end
section
open Go.RowKit
structure PR where
 R:yG
 hv:Value
 bs:List (yX × Value)
 bv:Value
def PR.cells (r:PR):V8:=[.string r.R.pd,r.hv,r.bv]
def zlw (rs:List PR):V8:=rs.flatMap PR.cells
theorem zsd (rs:List PR)(r:PR):zlw (rs++[r])=zlw rs++r.cells:=by simp[zlw]
structure bL (w:W8)(base:Nat)(r:PR):Prop where
 hd:w.ownsRow base 191 1 r.hv r.R.ts.length (yP r.R.ts)
 bo:aK w base r.bv r.bs
 eq:r.bs.map (·.1)=r.R.body
structure aD (w:W8)(base:Nat)(rv:Value)(rs:List PR):Prop where
 row:w.ownsRow base 123 3 rv rs.length (zlw rs)
 each:∀ r∈rs,bL w base r
theorem bL.cZ {B:List Nat}{w w':W8}{base:Nat}{r:PR}(h:bL w base r)(k:yC B w w')(hB:∀ x∈B,x<base\/(aY w 183 x/\aY w 191 x)):bL w' base r:=
 ⟨vR h.hd k (λ x hx=>(hB x hx).imp id And.right),h.bo.cZ k hB,h.eq⟩
variable {r:PR} {base base':Nat} {w:W8}
theorem bL.low (h:bL w base r)(hb:base'<=base):bL w base' r:=⟨zI h.hd hb,h.bo.low hb,h.eq⟩
theorem aD.cZ {B:List Nat}{w w':W8}{base:Nat}{rv:Value}{rs:List PR}(h:aD w base rv rs)(k:yC B w w')(hB:∀ x∈B,x<base\/(aY w 123 x/\aY w 183 x/\aY w 191 x)):aD w' base rv rs:=
 ⟨vR h.row k (λ x hx=>(hB x hx).imp id And.left),λ r hr=>(h.each r hr).cZ k (λ x hx=>(hB x hx).imp id And.right)⟩
variable {rs:List PR} {rv:Value}
theorem aD.low (h:aD w base rv rs)(hb:base'<=base):aD w base' rv rs:=⟨zI h.row hb,λ r hr=>(h.each r hr).low hb⟩
variable {ms:List (yU × Value)} {mv:Value}
theorem aC.low (h:aC w base mv ms)(hb:base'<=base):aC w base' mv ms:=⟨zI h.row hb,λ r hr=>zI (h.each r hr) hb⟩
structure gq (w:W8)(b:Nat)(s:B8)(rs:List PR)(p num:Nat)(ms:List (yU × Value))(mv rv:Value)(wr:W8):Prop where
 dg:dN wr b s p num mv
 hp:p<=s.size
 eh:aC wr (b+1) mv ms
 rules:aD wr (b+1) rv rs
 res:wr.heap[w.heap.size]?=some (.cells #[.slice none 0 0,.slice none 0 0] 100 (0,0))
 below:Below w.heap.size w wr
 bw:w.heap.size<b
variable {wr w1:W8} {n:Nat}
theorem yE {B:List Nat}(h:Below n w wr)(k:yC B wr w1)(hn:n<=wr.heap.size)(hB:∀ x∈B,n<=x):Below n w w1:=
 h.trans ⟨k.os,k.tape,k.output,k.size,λ i hi=>k.block i (Nat.lt_of_lt_of_le hi hn) (λ hm=>by have:=hB i hm;omega)⟩
variable {p b:Nat} {s:B8}
theorem gq.num {num:Nat}(h:gq w b s rs p num ms mv rv wr)(k:Nat):gq w b s rs p k ms mv rv (wr.setCell ⟨b,4,none⟩ (.int .i64 k)):=by
 have hb:=h.bw;have kk:yC [b] wr (wr.setCell ⟨b,4,none⟩ (.int .i64 k)):=(yC.refl [b] wr).setCell (by simp) _;obtain⟨q,c0,c1,c2,c3,c4,c5,fz⟩:=h.dg;refine⟨⟨by simpa using q,?_,?_,?_,?_,jX c4,?_,λ o=>by simpa using fz o⟩,h.hp,h.eh.kept kk (by simp),h.rules.cZ kk (by simp),yS h.res kk (by simp;omega),yE h.below kk (by omega) (by simp;omega),hb⟩
 all_goals (rw[zS (by omega)];assumption)
theorem gq.rule {num p':Nat}{ms':List (yU × Value)}{gm:Value}(h:gq w b s rs p num ms mv rv wr)(k:yC (b::mv.ownBlock.toList) wr w1)(hr:dN w1 b s p' num gm)(hp:p'<=s.size)(hm:aC w1 (b+1) gm ms'):gq w b s rs p' num ms' gm rv w1:=by
 have hb:=h.bw;have hz:=h.dg.lt;have hB:∀ x∈(b::mv.ownBlock.toList),x=b\/(b+1<=x/\aY wr 123 x/\aY wr 183 x/\aY wr 191 x/\aY wr 100 x):=λ x hx=>by
  rcases List.mem_cons.1 hx with rfl | hx
  ·exact .inl rfl
  ·exact .inr ⟨(h.eh.row.lt x (by simpa using hx)).1,vH h.eh.row (by decide) x hx,vH h.eh.row (by decide) x hx,vH h.eh.row (by decide) x hx,vH h.eh.row (by decide) x hx⟩
 refine⟨hr,hp,hm,h.rules.cZ k (λ x hx=>?_),yS h.res k (λ x hx=>?_),yE h.below k (by omega) (λ x hx=>?_),hb⟩
 ·rcases hB x hx with rfl | h1
  ·exact .inl (by omega)
  ·exact .inr ⟨h1.2.1,h1.2.2.1,h1.2.2.2.1⟩
 ·rcases hB x hx with rfl | h1
  ·exact .inl (by omega)
  ·exact .inr h1.2.2.2.2
 ·rcases hB x hx with rfl | h1 <;> omega
theorem gq.append {num:Nat}{W w5:W8}(h:gq w b s rs p num ms mv rv w1)(kW:yC [] w1 W){GJ:Value}(hr:bL w1 (b+1) r)
  (aI:w5.ownsRow (b+1) 123 3 GJ (rs.length+1) (zlw rs++r.cells)) (hg:W.grownBy w5 rv.ownBlock):gq w b s (rs++[r]) p num ms mv GJ w5:=by
 have hb:=h.bw;have hz:=h.dg.lt;have k5:yC rv.ownBlock.toList w1 w5:=((kW.mono (C:=rv.ownBlock.toList) (by simp))).grown hg (λ k e=>.inr (by simp[e]));have aE:∀ x∈rv.ownBlock.toList,b+1<=x:=λ x hx=>(h.rules.row.lt x (by simpa using hx)).1
 have lA:∀ x∈rv.ownBlock.toList,∀ e,123≠e->aY w1 e x:=λ x hx e he=>vH h.rules.row he x hx
 refine⟨h.dg.kept k5 (λ hm=>by have:=aE b hm;omega),h.hp,h.eh.cZ k5 (λ x hx=>.inr ⟨lA x hx _ (by decide),lA x hx _ (by decide)⟩),⟨?_,λ y hy=>?_⟩,yS h.res k5 (λ x hx=>.inr (lA x hx _ (by decide))),yE h.below k5 (by omega) (λ x hx=>by have:=aE x hx;omega),hb⟩
 ·rw[zsd,List.length_append];exact aI
 ·rcases List.mem_append.1 hy with hy | hy
  ·exact (h.rules.each y hy).cZ k5 (λ x hx=>.inr ⟨lA x hx _ (by decide),lA x hx _ (by decide)⟩)
  ·simp at hy;subst hy;exact hr.cZ k5 (λ x hx=>.inr ⟨lA x hx _ (by decide),lA x hx _ (by decide)⟩)
def zz3 (w:W8)(s:B8)(P:Bool × Nat × List yG × List yU)(e:Ending)(w':W8):Prop:=
 Below w.heap.size w w'/\(P.1=false->e=.returned (.tuple #[.agg #[.slice none 0 0,.slice none 0 0],.int .i64 (zD s P.2.1).2.1,.bool false])) /\
 (P.1=true->∃ (a:O8) (n c:Nat) (a':O8) (n' c':Nat) (rs:List PR) (ms:List (yU × Value)),e=.returned (.tuple #[.agg #[.slice a n c,.slice a' n' c'],.int .i64 0,.bool true])/\aD w' w.heap.size (.slice a n c) rs/\rs.map (·.R)=P.2.2.1/\aC w' w.heap.size (.slice a' n' c') ms/\ms.map (·.1)=P.2.2.2/\rs.length<=30/\ms.length<=120)
theorem zrc:(Tryz.prog.info? 123).map (λ i=>(i.zero,i.size,i.bytes))=some (some (.agg #[.string { data:=#[] },.slice none 0 0,.slice none 0 0]),3,64):=by kernel_rfl
theorem z2x (w1:W8)(o:Obj)(r:PR)(j:Nat)(u:Value)(h:r.cells[j]?=some u):((w1.alloc o).alloc (Obj.cells #[.string r.R.pd,r.hv,r.bv] 123)).cell? ((⟨w1.heap.size+1,0,none⟩:Addr).add j)=some u:=by
 have e:(⟨w1.heap.size+1,0,none⟩:Addr).add j=⟨w1.heap.size+1,j,none⟩:=by unfold Addr.add;split <;> simp_all
 rw[e,World.cell?_alloc_at _ _ _ _ (by simp)];simpa[PR.cells] using h
theorem z9e (R:yG)(a:O8)(n c:Nat)(a':O8)(n' c':Nat)(bs:List (yX × Value)):∀ u∈(PR.mk R (.slice a n c) bs (.slice a' n' c')).cells,u.oneCell'=true:=by
 intro u hu;simp[PR.cells] at hu;rcases hu with rfl | rfl | rfl <;> rfl
theorem ya8 (aT:Below (w.alloc (Obj.cells #[.slice none 0 0,.slice none 0 0] 100)).heap.size (w.alloc (Obj.cells #[.slice none 0 0,.slice none 0 0] 100)) w1):
  gq w w1.heap.size s [] 0 0 [] (.slice none 0 0) (.slice none 0 0) (w1.alloc (Obj.cells #[.string s,.int .i64 (zD s 0).1,.int .i64 (zD s 0).2.1,.int .i64 (zD s 0).2.2,.int .i64 0,.slice none 0 0] 163)):=by
 have hz:=aT.size;simp at hz;refine⟨⟨by simp,?_,?_,?_,?_,?_,?_,?_⟩,Nat.zero_le _,⟨World.ownsRow_nil _ _ _ _,by simp⟩,⟨World.ownsRow_nil _ _ _ _,by simp⟩,?_,?_,by omega⟩
 all_goals first | (rw[World.cell?_alloc_at _ _ _ _ rfl];rfl) | (intro o;rw[World.frozen?_alloc_at _ _ _ _ rfl];done) | skip
 ·rw[Below.heap_alloc _ _ _ (by omega),aT.block _ (by simp)];exact heap_alloc_new w _
 ·exact ((B9.alloc L9 _).trans (aT.mono (by simp))).alloc (by omega) _
theorem zj1 {u0 u1:Value}(h0:w1.cell? ⟨n,0,none⟩=some u0)(h1:w1.cell? ⟨n,1,none⟩=some u1)(v0 v1:Value):((w1.setCell ⟨n,0,none⟩ v0).setCell ⟨n,1,none⟩ v1).cell? ⟨n,0,none⟩=some v0/\((w1.setCell ⟨n,0,none⟩ v0).setCell ⟨n,1,none⟩ v1).cell? ⟨n,1,none⟩=some v1:=
 ⟨by rw[zS (by omega)];exact jX h0,jX (by rw[zS (by omega)];exact h1)⟩
theorem zue (s:B8)(p:Nat)(rs:List yG)(ms:List yU)(h:rs.length<=30):vG s (31-rs.length) p rs ms =
  if (zD s p).1=0 then (true,p,rs,ms)
  else if rs.length=30 then (false,p,rs,ms)
  else if (xG s rs.length p ms).1 then vG s (31-(rs.length+1)) (xG s rs.length p ms).2.1 (rs++[(xG s rs.length p ms).2.2.1]) (xG s rs.length p ms).2.2.2
  else (false,(xG s rs.length p ms).2.1,rs,(xG s rs.length p ms).2.2.2):=by
 have e:31-rs.length=(31-(rs.length+1))+1:=by omega
 rw[e,vG]
theorem zyr (w:W8)(s:B8)(hs:s.size<=2000000):
  Calls Tryz.prog 45 #[.string s] w (zz3 w s (zO s)):=by
 have dQ:s.size<=maxLen:=by unfold maxLen;omega
 obtain⟨i0,hi,dK,cB,bZ⟩:=info_parts zrc;go_enter Tryz.func45,Tryz.ntmps45;go_wp2_with fail;refine (zl5 s 0 (Nat.zero_le _) dQ _).mono ?_;rintro e w1 ⟨rfl,aT⟩;have dj:=ya8 (s:=s) aT;clear aT;go_wp2_with fail
 go_loopg [6] 32 (λ g rv wr=>∃ (rs:List PR) (ms:List (yU × Value)) (p num:Nat) (mv:Value),rs.length<=30/\31-rs.length<=g/\ms.length<=4*rs.length/\gq w w1.heap.size s rs p num ms mv rv wr/\zO s=vG s (31-rs.length) p (rs.map (·.R)) (ms.map (·.1)))
 exact⟨[],[],0,0,_,by simp,by simp,by simp,dj,rfl⟩
 case round=>
  clear dj;obtain⟨rs,ms,p,num,mv,hl,hg,ed,hinv,bj⟩:=hrel;obtain⟨a1,kN,rfl⟩:=zE hinv.rules.row;obtain⟨a2,tR,rfl⟩:=zE hinv.eh.row;have dj:=zue s p (rs.map (·.R)) (ms.map (·.1)) (by simpa using hl);rw[List.length_map] at dj;have HF:=zC (bj.trans dj);clear bj dj;have dP:=hinv.hp;obtain⟨bP,c0,c1,c2,c3,c4,c5,fz⟩:=hinv.dg;have ei:=hinv.bw;obtain⟨r0,f0⟩:=zB hinv.res 0;obtain⟨r1,f1⟩:=zB hinv.res 1;have HI:=zC hinv;clear hinv
  by_cases h0:(zD s p).1=0
  ·have BY:((zD s p).1 != 0)=false:=(by simp[h0]);have fS:=zC ((zA HF).trans (if_pos h0));have HE:=zC h0;clear HF h0;go_wp2_with fail;obtain⟨q0,q1⟩:=zj1 r0 r1 (.slice a1 rs.length kN) (.slice a2 ms.length tR);refine bodyPost_ret (v:=.tuple #[.agg #[.slice a1 rs.length kN,.slice a2 ms.length tR],.int .i64 0,.bool true]) (by simp[results,Tryz.results45,go_sem,q0,q1]) rfl ?_;have kk:=za8 wr w.heap.size (.slice a1 rs.length kN) (.slice a2 ms.length tR);have i:=zA HI;have bU:∀ e,100≠e->aY wr e w.heap.size:=λ e he=>zit i.res he
   rw[zA fS];refine⟨yE i.below kk (by omega) (by simp),λ e=>(by cases e),λ _=>⟨_,_,_,_,_,_,rs,ms,rfl,(i.rules.low (by omega)).cZ kk (λ x hx=>?_),rfl,(i.eh.low (by omega)).cZ kk (λ x hx=>?_),rfl,hl,by omega⟩⟩
   ·simp at hx;subst hx;exact .inr ⟨bU _ (by decide),bU _ (by decide),bU _ (by decide)⟩
   ·simp at hx;subst hx;exact .inr ⟨bU _ (by decide),bU _ (by decide)⟩
  ·have BY:((zD s p).1 != 0)=true:=(by simp[h0]);have fS:=zC ((zA HF).trans (if_neg h0));have HE:=zC h0;clear HF h0
   by_cases h30:rs.length=30
   ·have BZ:((rs.length:Int)==30)=true:=(by simp;omega);have bK:=zC ((zA fS).trans (if_pos h30));clear fS h30;go_wp2_with fail
    go_region
    all_goals
     go_wp2_with fail;obtain⟨q0,q1⟩:=zj1 r0 r1 (.slice none 0 0) (.slice none 0 0);refine bodyPost_ret (v:=.tuple #[.agg #[.slice none 0 0,.slice none 0 0],.int .i64 (zD s p).2.1,.bool false]) (by simp[results,Tryz.results45,go_sem,q0,q1]) rfl ?_;rw[zA bK];refine⟨yE (zA HI).below ((za8 wr w.heap.size (.slice none 0 0) (.slice none 0 0)).drew) (by omega) (by simp),λ _=>rfl,λ e=>(by cases e)⟩
   ·have BZ:((rs.length:Int)==30)=false:=(by simp;omega);have bK:=zC ((zA fS).trans (if_neg h30));have iG:rs.length<30:=(by omega);have HQ:=zC ((zA HI).num rs.length);clear fS h30;go_wp2_with fail;refine (z2y _ w1.heap.size s p rs.length _ ms (zA HQ).dg (zA HQ).eh (by omega) dP hs).mono ?_;rintro e w2 ⟨x,a,n,c,a',n',c',gm,rfl,cN,fc,yd,pM⟩;clear c0 c1 c2 c3 c4 c5 fz r0 r1 f0 f1;have kj:=cN.size;rw[World.size_setCell] at kj
    cases hP:(xG s rs.length p (ms.map (·.1))).1 with
    | false=>
     have dE:=zC ((zA bK).trans (if_neg (by rw[hP];decide)))
     have zj:w2.heap[w.heap.size]?=some (.cells #[.slice none 0 0,.slice none 0 0] 100 (0,0)):=yS (zA HQ).res cN (λ x hx=>by
      rcases List.mem_cons.1 hx with rfl | hx
      ·exact .inl (by omega)
      ·exact .inr (vH (zA HQ).eh.row (by decide) x hx))
     have fA:Below w.heap.size w w2:=yE (zA HQ).below cN (by simp;omega) (λ x hx=>by
      rcases List.mem_cons.1 hx with rfl | hx
      ·omega
      ·have:=((zA HQ).eh.row.lt x (by simpa using hx)).1;omega)
     have ka:=(yC.refl [] w2).alloc (Obj.cells #[.string x,.slice a n c,.slice a' n' c'] 123);obtain⟨bP,c0,c1,c2,c3,c4,c5,fz⟩:=fc.kept ka (by simp);obtain⟨r0,f0⟩:=zB (yS zj ka (by simp)) 0;obtain⟨r1,f1⟩:=zB (yS zj ka (by simp)) 1;have HB:=zC fA;clear pM yd cN fc bK hP HQ HI zj ka fA;go_wp2_with fail
     go_region
     all_goals
      go_wp2_with fail;obtain⟨q0,q1⟩:=zj1 r0 r1 (.slice none 0 0) (.slice none 0 0);refine bodyPost_ret (v:=.tuple #[.agg #[.slice none 0 0,.slice none 0 0],.int .i64 (zD s (xG s rs.length p (ms.map (·.1))).2.1).2.1,.bool false]) (by simp[results,Tryz.results45,go_sem,q0,q1]) rfl ?_;rw[zA dE];refine⟨yE ((zA HB).alloc (by omega) _) ((za8 _ w.heap.size (.slice none 0 0) (.slice none 0 0)).drew) (by simp;omega) (by simp),λ _=>rfl,λ e=>(by cases e)⟩
    | true=>
     have dE:=zC ((zA bK).trans (if_pos hP));obtain⟨bs,ms',rfl,eG,LP,JK,gK,lG,yl,I7,nG⟩:=pM hP;have Cg:=(zA HQ).rule cN fc nG eG;have ak:bL w2 (w1.heap.size+1) ⟨(xG s rs.length p (ms.map (·.1))).2.2.1,.slice a n c,bs,.slice a' n' c'⟩:=⟨zI gK (by simp;omega),lG.low (by simp;omega),yl⟩;have bH:=Cg.rules.row;have En:=zC Cg;have bt:=zC ak;have Hq:=zC LP;clear pM yd cN fc eG gK lG yl Cg ak bK hP HQ HI LP;go_wp2_with (at_builtin;refine wpList_append_own _ rfl _ _ 75 rfl (w1.heap.size+1) 123 i0 _ 3 64 Tryz.underlying75 hi dK cB bZ rfl (by decide) _ _ _ rfl ((bH.alloc _).alloc _) ⟨w2.heap.size+1,0,none⟩ 1 1 (PR.mk (xG s rs.length p (ms.map (·.1))).2.2.1 (.slice a n c) bs (.slice a' n' c')).cells rfl rfl (z2x w2 _ (PR.mk (xG s rs.length p (ms.map (·.1))).2.2.1 (.slice a n c) bs (.slice a' n' c'))) (z9e _ _ _ _ _ _ _ _) (by unfold maxLen;omega) (by omega) (by simp;omega) ?_);intro v5 w5 hown5 dz hne5;clear hne5;obtain⟨a5,gz,rfl⟩:=zE hown5;have E9:=(zA En).append (((yC.refl [] w2).alloc _).alloc _) (zA bt) hown5 dz;have H7:=zC E9;clear hown5 dz bH E9 En bt;go_wp2_with fail;go_roundg (31-(rs.length+1));exact⟨_,ms',_,_,_,by simp;omega,by simp,by simp;omega,zA H7,by rw[zA dE,zA Hq];simp⟩;omega
end
end Go.Proofs.YtldkpahaocjdpaaGreat
