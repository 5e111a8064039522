/-
  The program's reader: rule, at every text and place.
-/
import Derived.Test.YtldkpahaocjdpaaGreatE14
set_option maxHeartbeats 16000000
set_option maxRecDepth 1000000
namespace Go.Proofs.YtldkpahaocjdpaaGreat
section
open Go.RowKit
variable {fr:Nat × Nat} {e:TypeId} {c:Array Value} {n:Nat} {w:W8}
theorem zds {e':TypeId}(hb:w.heap[n]?=some (.cells c e fr))(bF:e≠e'):dW w e' n:=by
 intro c' fr' h;rw[hb] at h;injection h with h
 injection h with _ h _
 exact bF h
variable {w':W8}
theorem yK {B:List Nat}(hb:w.heap[n]?=some (.cells c e fr))(k:zK B w w')(hB:∀ x∈B,x≠n\/dW w e x):w'.heap[n]?=some (.cells c e fr):=by
 rw[k.block n (Array.getElem?_eq_some_iff.1 hb).1 (λ hm=>by
  rcases hB n hm with h1 | h1
  ·exact h1 rfl
  ·exact h1 _ _ hb)]
 exact hb
def z6g (w:W8)(b:Nat)(s:B8)(num:Nat)(mv:Value)(n0:Nat)(P:Bool × Nat × vY × List xU)(e:Ending)(w':W8):Prop:=
 ∃ (x:B8) (a:O8) (n c:Nat) (a':O8) (n' c':Nat) (kq:Value),e=.returned (.tuple #[.agg #[.string x,.slice a n c,.slice a' n' c'],.bool P.1])/\zK (b::mv.ownBlock.toList) w w'/\dT w' b s P.2.1 num kq/\(∀ k,kq.ownBlock=some k->mv.ownBlock=some k\/w.heap.size<=k) /\
  (P.1=true->∃ (bs:List (vK × Value)) (ms':List (xU × Value)),x=P.2.2.1.pd/\ey w' (b+1) kq ms'/\ms'.map (·.1)=P.2.2.2/\ms'.length<=n0+4/\w'.ownsRow w.heap.size 191 1 (.slice a n c) P.2.2.1.ts.length (xH P.2.2.1.ts)/\iL w' w.heap.size (.slice a' n' c') bs/\bs.map (·.1)=P.2.2.1.body/\bs.length<=3/\P.2.1<=s.size)
structure Hk (w:W8)(b:Nat)(s:B8)(num:Nat)(mv:Value)(h:Nat)(pd:B8)(tv:Value)(ts:List (Bool × B8))(p:Nat)(ms:List (xU × Value))(gq:Value)(wr:W8):Prop where
 dx:dT wr b s p num gq
 eK:ey wr (b+1) gq ms
 res:wr.heap[w.heap.size]?=some (.cells #[.string { data:=#[] },.slice none 0 0,.slice none 0 0] 123 (0,0))
 hd:wr.heap[h]?=some (.cells #[.string pd,tv] 79 (0,0))
 Ry:wr.ownsRow w.heap.size 191 1 tv ts.length (xH ts)
 kept:zK (b::mv.ownBlock.toList) w wr
 at_:∀ k,gq.ownBlock=some k->mv.ownBlock=some k\/w.heap.size<=k
 bw:b<w.heap.size
 hw:w.heap.size<h
variable {wr w1:W8} {gq tv mv:Value} {ms:List (xU × Value)} {p h num b:Nat} {ts:List (Bool × B8)} {pd s:B8}
theorem Hk.take {p':Nat}(i:Hk w b s num mv h pd tv ts p ms gq wr)(k:zK [b] wr w1)(hr:dT w1 b s p' num gq):Hk w b s num mv h pd tv ts p' ms gq w1:=
 have h1:=i.bw;have h2:=i.hw
 ⟨hr,i.eK.kept k (by simp),yK i.res k (by simp;omega),yK i.hd k (by simp;omega),yI i.Ry k (by simp;omega),i.kept.step k (by simp),i.at_,i.bw,i.hw⟩
theorem Hk.ends (i:Hk w b s num mv h pd tv ts p ms gq wr)(k:zK [w.heap.size] wr w1):
  zK (b::mv.ownBlock.toList) w w1/\dT w1 b s p num gq/\ey w1 (b+1) gq ms/\w1.ownsRow w.heap.size 191 1 tv ts.length (xH ts):=by
 have h1:=i.bw;refine⟨i.kept.step k (by simp),i.dx.kept k (by simp;omega),i.eK.bu k (λ x hx=>?_),xF i.Ry k (λ x hx=>?_)⟩
 ·simp at hx;subst hx;exact .inr ⟨zds i.res (by decide),zds i.res (by decide)⟩
 ·simp at hx;subst hx;exact .inr (zds i.res (by decide))
theorem z3a {base:Nat}{bv:Value}{ls:List (vK × Value)}(h:iL w base bv ls)(hb:w.heap[n]?=some (.cells c 123 (0,0)))(k:zK [n] w w'):iL w' base bv ls:=
 h.bu k (λ x hx=>by simp at hx;subst hx;exact .inr ⟨zds hb (by decide),zds hb (by decide)⟩)
theorem z4k (w:W8)(b:Nat)(s:B8)(pos num:Nat)(mv:Value)(iB:List (xU × Value))(h:dT w b s pos num mv)(gU:ey w (b+1) mv iB)(bh:iB.length<=800)(aJ:pos<=s.size)(hs:s.size<=2000000):
  Calls Tryz.prog 74 #[.pointer (some ⟨b,0,none⟩)] w (z6g w b s num mv iB.length (vG s num pos (iB.map (·.1)))):=by
 have bM:s.size<=maxLen:=by unfold maxLen;omega
 have h0:=h.kept ((zK.refl [] w).alloc (.cells #[.string { data:=#[] },.slice none 0 0,.slice none 0 0] 123)) (by simp);have Ax:=gU.kept ((zK.refl [] w).alloc (.cells #[.string { data:=#[] },.slice none 0 0,.slice none 0 0] 123)) (by simp);obtain⟨aH,c0,c1,c2,c3,c4,c5,fz⟩:=h;have nj:(w.alloc (.cells #[.string { data:=#[] },.slice none 0 0,.slice none 0 0] 123)).heap[w.heap.size]?=some (.cells #[.string { data:=#[] },.slice none 0 0,.slice none 0 0] 123 (0,0)):=heap_alloc_new w _;have mD:=zC nj;have hq:=zww aJ;have lf:=zC (λ k (e:mv.ownBlock=some k)=>(gU.row.lt k e).2);have HP:vG s num pos (iB.map (·.1))=_:=vG.eq_1 s num pos (iB.map (·.1));have HP:=zC HP;clear nj gU;go_enter Tryz.func74,Tryz.ntmps74;go_wp2_with fail;refine (zmf _ b s pos num mv false (zF s pos).2.1 iB h0 Ax (by omega) aJ hs).mono ?_;intro e w1 hpost;clear c0 c1 c2 c3 c4 c5 fz h0 Ax
 cases hr:vD s pos with
 | no q=>
  rw[hr] at hpost hq HP;obtain⟨rfl,aW,jm⟩:=hpost;have aL:=yK (zA mD) aW (by simp;omega);obtain⟨a0,f0⟩:=zB aL 0;obtain⟨a1,f1⟩:=zB aL 1;obtain⟨a2,f2⟩:=zB aL 2;have mz:w.heap.size<w1.heap.size:=by have:=aW.size;simp at this;omega
  have HK:=zC aW;have HR:=zC jm;clear aW jm hr aL mD;go_wp2_with fail;obtain⟨q0,q1,q2⟩:=z93 a0 a1 a2 (.string { data:=#[] }) (.slice none 0 0) (.slice none 0 0);have q0:=qY q0;have q1:=qY q1;have q2:=qY q2;have k3:=(zyo w1 w.heap.size (.string { data:=#[] }) (.slice none 0 0) (.slice none 0 0)).alloc (Obj.cells #[.string { data:=#[] },.slice none 0 0] 79);refine bodyPost_ret (v:=.tuple #[.agg #[.string { data:=#[] },.slice none 0 0,.slice none 0 0],.bool false]) (by simp[results,Tryz.results74,go_sem,q0,q1,q2]) rfl ?_;rw[zA HP];exact⟨_,_,_,_,_,_,_,mv,rfl,(((zK.refl _ w).alloc _).step (zA HK) (by simp)).step k3 (by simp),(zA HR).kept k3 (by simp;omega),λ k e=>.inl e,λ e=>by cases e⟩
 | yes q pd ts pl=>
  rw[hr] at hpost hq HP;obtain⟨tv,gq,rfl,aW,jm,dH,pG,dY⟩:=hpost;obtain⟨br,bD,rfl⟩:=zD pG;have mz:w.heap.size<w1.heap.size:=by have:=aW.size;simp at this;omega
  have aL:=yK (zA mD) aW (λ x hx=>by
   rcases List.mem_cons.1 hx with rfl | hx
   ·exact .inl (by omega)
   ·have:=zA lf x (by simpa using hx);exact .inl (by omega))
  have ka:=(zK.refl [] w1).alloc (Obj.cells #[.string pd,.slice br ts.length bD] 79);have hI:Hk w b s num mv w1.heap.size pd (.slice br ts.length bD) ts q (iB++[(su s num pos pd ts pl,.slice br ts.length bD)]) gq (w1.alloc (Obj.cells #[.string pd,.slice br ts.length bD] 79)):=by
   refine⟨jm.kept ka (by simp),dH.bu ka (by simp),yK aL ka (by simp),heap_alloc_new _ _,xF (zG pG (by simp)) ka (by simp),((((zK.refl _ w).alloc _).step aW (by simp;intro x hx;exact .inl (.inr hx))).alloc _),λ k e=>?_,aH,mz⟩;rcases dY k e with h1 | h1
   ·exact .inl h1
   ·exact .inr (by simp at h1;omega)
  have HI:=zC hI;have YD:w.heap.size<w1.heap.size+1:=by omega
  clear aW jm dH pG dY aL ka hI mD hr;go_wp2_with fail;refine (xI s q num gq 8 b _ (zA HI).dx hq bM).mono ?_;rintro e w2 ⟨rfl,bn,ik⟩;have dG:=(zA HI).take bn ik;have te:=bn.size;rw[World.size_alloc] at te;clear HI bn ik;obtain⟨d0,g0⟩:=zB dG.hd 0;obtain⟨d1,g1⟩:=zB dG.hd 1
  cases h8:(zF s q).1==8 with
  | true=>
   have JX:(zF s q).1=8:=(by simpa using h8);have e8:yM s q 8=(zF s q).2.2:=(by unfold yM;rw[if_pos h8]);rw[e8] at dG;obtain⟨a0,f0⟩:=zB dG.res 0;obtain⟨a1,f1⟩:=zB dG.res 1;obtain⟨a2,f2⟩:=zB dG.res 2;have mE:=zC ((zA HP).trans (if_pos JX));have eA:=zC dG;clear HP h8 JX e8 dG;go_wp2_with fail;obtain⟨q0,q1,q2⟩:=z93 a0 a1 a2 (.string pd) (.slice br ts.length bD) (.slice none 0 0);have k3:=zyo w2 w.heap.size (.string pd) (.slice br ts.length bD) (.slice none 0 0);refine bodyPost_ret (v:=.tuple #[.agg #[.string pd,.slice br ts.length bD,.slice none 0 0],.bool true]) (by simp[results,Tryz.results74,go_sem,q0,q1,q2]) rfl ?_;rw[zA mE];obtain⟨z1,z2,z3,z4⟩:=(zA eA).ends k3;exact⟨_,_,_,_,_,_,_,gq,rfl,z1,z2,(zA eA).at_,λ _=>⟨[],_,rfl,z3,by simp,by simp,z4,⟨World.ownsRow_nil _ _ _ _,by simp⟩,rfl,by simp,(xT s q hq).2⟩⟩
  | false=>
   have JX:¬ (zF s q).1=8:=(by simpa using h8);have e8:yM s q 8=q:=(by unfold yM;rw[if_neg (by rw[h8];decide)]);rw[e8] at dG;have mE:=zC ((zA HP).trans (if_neg JX));have eA:=zC dG;clear HP h8 JX e8 dG d0 d1 g0 g1;go_wp2_with fail;refine (xI s q num gq 9 b _ (zA eA).dx hq bM).mono ?_;rintro e w3 ⟨rfl,eE,lj⟩;have gA:=(zA eA).take eE lj;have YJ:=eE.size;clear eA eE lj
   cases h9:(zF s q).1==9 with
   | false=>
    have JY:¬ (zF s q).1=9:=(by simpa using h9);have e9:yM s q 9=q:=(by unfold yM;rw[if_neg (by rw[h9];decide)]);rw[e9] at gA;obtain⟨a0,f0⟩:=zB gA.res 0;obtain⟨a1,f1⟩:=zB gA.res 1;obtain⟨a2,f2⟩:=zB gA.res 2;have sD:=zC ((zA mE).trans (if_neg JY));have iC:=zC gA;clear mE h9 JY e9 gA;go_wp2_with fail;obtain⟨q0,q1,q2⟩:=z93 a0 a1 a2 (.string { data:=#[] }) (.slice none 0 0) (.slice none 0 0);have k3:=zyo w3 w.heap.size (.string { data:=#[] }) (.slice none 0 0) (.slice none 0 0);refine bodyPost_ret (v:=.tuple #[.agg #[.string { data:=#[] },.slice none 0 0,.slice none 0 0],.bool false]) (by simp[results,Tryz.results74,go_sem,q0,q1,q2]) rfl ?_;rw[zA sD];obtain⟨z1,z2,z3,z4⟩:=(zA iC).ends k3;exact⟨_,_,_,_,_,_,_,gq,rfl,z1,z2,(zA iC).at_,λ e=>by cases e⟩
   | true=>
    have JY:(zF s q).1=9:=(by simpa using h9);have e9:yM s q 9=(zF s q).2.2:=(by unfold yM;rw[if_pos h9]);rw[e9] at gA;have sD:=zC ((zA mE).trans (if_pos JY));have iC:=zC gA;have YE:=(xT s q hq).2;clear mE h9 JY e9 gA;go_wp2_with fail;refine (z4a w3 b s (zF s q).2.2 num gq _ (zA iC).dx (zA iC).eK (by simp;omega) YE hs).mono ?_;rintro e w4 ⟨ab,nb,cb,UW,ls,UU,rfl,pC,il,rX,Gm,Qs,zl,AZ⟩;have bF:∀ x∈(b::gq.ownBlock.toList),x=b\/(dW w3 123 x/\dW w3 79 x/\dW w3 191 x):=λ x hx=>by
     rcases List.mem_cons.1 hx with rfl | hx
     ·exact .inl rfl
     ·exact .inr ⟨yH (zA iC).eK.row (by decide) x hx,yH (zA iC).eK.row (by decide) x hx,yH (zA iC).eK.row (by decide) x hx⟩
    have xe:Hk w b s num mv w1.heap.size pd (.slice br ts.length bD) ts (jG s num 3 (zF s q).2.2 [] ((iB++[(su s num pos pd ts pl,Value.slice br ts.length bD)]).map (·.1))).2.1 UU UW w4:=by
     have i:=zA iC;have hz:=i.kept.size;refine⟨il,rX,yK i.res pC (λ x hx=>?_),yK i.hd pC (λ x hx=>?_),xF i.Ry pC (λ x hx=>?_),i.kept.step pC (λ x hx=>?_),λ k e=>?_,aH,mz⟩
     ·rcases bF x hx with rfl | hx
      ·exact .inl (by omega)
      ·exact .inr hx.1
     ·rcases bF x hx with rfl | hx
      ·exact .inl (by omega)
      ·exact .inr hx.2.1
     ·rcases bF x hx with rfl | hx
      ·exact .inl aH
      ·exact .inr hx.2.2
     ·rcases List.mem_cons.1 hx with rfl | hx
      ·exact .inl (by simp)
      ·rcases i.at_ x (by simpa using hx) with h1 | h1
       ·exact .inl (by simp[h1])
       ·exact .inr h1
     ·rcases zl k e with h1 | h1
      ·exact i.at_ k h1
      ·exact .inr (by omega)
    have YK:=pC.size;clear pC il rX bF zl;have Qv:((iB++[(su s num pos pd ts pl,Value.slice br ts.length bD)]).map (·.1))=iB.map (·.1)++[su s num pos pd ts pl]:=(by simp);rw[Qv] at xe Gm AZ ⊢;have HY:=zC AZ;have HM:=zC Gm;have Q9:=(zA iC).kept.size;clear AZ Gm iC;obtain⟨d0,g0⟩:=zB xe.hd 0;obtain⟨d1,g1⟩:=zB xe.hd 1;obtain⟨a0,f0⟩:=zB xe.res 0;obtain⟨a1,f1⟩:=zB xe.res 1;obtain⟨a2,f2⟩:=zB xe.res 2;have Jb:=zC xe;clear xe;go_wp2_with fail;obtain⟨q0,q1,q2⟩:=z93 a0 a1 a2 (.string pd) (.slice br ts.length bD) (.slice ab nb cb);have k3:=zyo w4 w.heap.size (.string pd) (.slice br ts.length bD) (.slice ab nb cb);refine bodyPost_ret (v:=.tuple #[.agg #[.string pd,.slice br ts.length bD,.slice ab nb cb],.bool (jG s num 3 (zF s q).2.2 [] (iB.map (·.1)++[su s num pos pd ts pl])).1]) (by simp[results,Tryz.results74,go_sem,q0,q1,q2]) rfl ?_;rw[zA sD];obtain⟨z1,z2,z3,z4⟩:=(zA Jb).ends k3;refine⟨_,_,_,_,_,_,_,UW,rfl,z1,z2,(zA Jb).at_,λ hy=>?_⟩;obtain⟨y1,y2,y3,y4⟩:=zA HY hy;exact⟨ls,UU,rfl,z3,zA HM,by simp at Qs;omega,z4,z3a (y1.low Q9) (zA Jb).res k3,y2,y3,y4⟩
end
section
open Go.RowKit
structure PR where
 R:vY
 hv:Value
 bs:List (vK × Value)
 bv:Value
def PR.cells (r:PR):V8:=[.string r.R.pd,r.hv,r.bv]
def zmk (rs:List PR):V8:=rs.flatMap PR.cells
theorem zsl (rs:List PR)(r:PR):zmk (rs++[r])=zmk rs++r.cells:=by simp[zmk]
structure uh (w:W8)(base:Nat)(r:PR):Prop where
 hd:w.ownsRow base 191 1 r.hv r.R.ts.length (xH r.R.ts)
 bo:iL w base r.bv r.bs
 eq:r.bs.map (·.1)=r.R.body
structure iq (w:W8)(base:Nat)(rv:Value)(rs:List PR):Prop where
 row:w.ownsRow base 123 3 rv rs.length (zmk rs)
 each:∀ r∈rs,uh w base r
theorem uh.bu {B:List Nat}{w w':W8}{base:Nat}{r:PR}(h:uh w base r)(k:zK B w w')(hB:∀ x∈B,x<base\/(dW w 183 x/\dW w 191 x)):uh w' base r:=
 ⟨xF h.hd k (λ x hx=>(hB x hx).imp id And.right),h.bo.bu k hB,h.eq⟩
variable {r:PR} {base base':Nat} {w:W8}
theorem uh.low (h:uh w base r)(hb:base'<=base):uh w base' r:=⟨zG h.hd hb,h.bo.low hb,h.eq⟩
theorem iq.bu {B:List Nat}{w w':W8}{base:Nat}{rv:Value}{rs:List PR}(h:iq w base rv rs)(k:zK B w w')(hB:∀ x∈B,x<base\/(dW w 123 x/\dW w 183 x/\dW w 191 x)):iq w' base rv rs:=
 ⟨xF h.row k (λ x hx=>(hB x hx).imp id And.left),λ r hr=>(h.each r hr).bu k (λ x hx=>(hB x hx).imp id And.right)⟩
variable {rs:List PR} {rv:Value}
theorem iq.low (h:iq w base rv rs)(hb:base'<=base):iq w base' rv rs:=⟨zG h.row hb,λ r hr=>(h.each r hr).low hb⟩
variable {ms:List (xU × Value)} {mv:Value}
theorem ey.low (h:ey w base mv ms)(hb:base'<=base):ey w base' mv ms:=⟨zG h.row hb,λ r hr=>zG (h.each r hr) hb⟩
structure BL (w:W8)(b:Nat)(s:B8)(rs:List PR)(p num:Nat)(ms:List (xU × Value))(mv rv:Value)(wr:W8):Prop where
 dx:dT wr b s p num mv
 hp:p<=s.size
 eK:ey wr (b+1) mv ms
 rules:iq wr (b+1) rv rs
 res:wr.heap[w.heap.size]?=some (.cells #[.slice none 0 0,.slice none 0 0] 100 (0,0))
 below:Below w.heap.size w wr
 bw:w.heap.size<b
variable {wr w1:W8} {n:Nat}
theorem zY {B:List Nat}(h:Below n w wr)(k:zK B wr w1)(hn:n<=wr.heap.size)(hB:∀ x∈B,n<=x):Below n w w1:=
 h.trans ⟨k.os,k.tape,k.output,k.size,λ i hi=>k.block i (Nat.lt_of_lt_of_le hi hn) (λ hm=>by have:=hB i hm;omega)⟩
variable {p b:Nat} {s:B8}
theorem BL.num {num:Nat}(h:BL w b s rs p num ms mv rv wr)(k:Nat):BL w b s rs p k ms mv rv (wr.setCell ⟨b,4,none⟩ (.int .i64 k)):=by
 have hb:=h.bw;have kk:zK [b] wr (wr.setCell ⟨b,4,none⟩ (.int .i64 k)):=(zK.refl [b] wr).setCell (by simp) _;obtain⟨q,c0,c1,c2,c3,c4,c5,fz⟩:=h.dx;refine⟨⟨by simpa using q,?_,?_,?_,?_,qT c4,?_,λ o=>by simpa using fz o⟩,h.hp,h.eK.kept kk (by simp),h.rules.bu kk (by simp),yK h.res kk (by simp;omega),zY h.below kk (by omega) (by simp;omega),hb⟩
 all_goals (rw[yC (by omega)];assumption)
theorem BL.bJ {num p':Nat}{ms':List (xU × Value)}{kq:Value}(h:BL w b s rs p num ms mv rv wr)(k:zK (b::mv.ownBlock.toList) wr w1)(hr:dT w1 b s p' num kq)(hp:p'<=s.size)(hm:ey w1 (b+1) kq ms'):BL w b s rs p' num ms' kq rv w1:=by
 have hb:=h.bw;have hz:=h.dx.lt;have hB:∀ x∈(b::mv.ownBlock.toList),x=b\/(b+1<=x/\dW wr 123 x/\dW wr 183 x/\dW wr 191 x/\dW wr 100 x):=λ x hx=>by
  rcases List.mem_cons.1 hx with rfl | hx
  ·exact .inl rfl
  ·exact .inr ⟨(h.eK.row.lt x (by simpa using hx)).1,yH h.eK.row (by decide) x hx,yH h.eK.row (by decide) x hx,yH h.eK.row (by decide) x hx,yH h.eK.row (by decide) x hx⟩
 refine⟨hr,hp,hm,h.rules.bu k (λ x hx=>?_),yK h.res k (λ x hx=>?_),zY h.below k (by omega) (λ x hx=>?_),hb⟩
 ·rcases hB x hx with rfl | h1
  ·exact .inl (by omega)
  ·exact .inr ⟨h1.2.1,h1.2.2.1,h1.2.2.2.1⟩
 ·rcases hB x hx with rfl | h1
  ·exact .inl (by omega)
  ·exact .inr h1.2.2.2.2
 ·rcases hB x hx with rfl | h1 <;> omega
theorem BL.append {num:Nat}{W w5:W8}(h:BL w b s rs p num ms mv rv w1)(kW:zK [] w1 W){U9:Value}(hr:uh w1 (b+1) r)
  (ay:w5.ownsRow (b+1) 123 3 U9 (rs.length+1) (zmk rs++r.cells)) (hg:W.grownBy w5 rv.ownBlock):BL w b s (rs++[r]) p num ms mv U9 w5:=by
 have hb:=h.bw;have hz:=h.dx.lt;have k5:zK rv.ownBlock.toList w1 w5:=((kW.mono (C:=rv.ownBlock.toList) (by simp))).grown hg (λ k e=>.inr (by simp[e]));have aB:∀ x∈rv.ownBlock.toList,b+1<=x:=λ x hx=>(h.rules.row.lt x (by simpa using hx)).1
 have eI:∀ x∈rv.ownBlock.toList,∀ e,123≠e->dW w1 e x:=λ x hx e he=>yH h.rules.row he x hx
 refine⟨h.dx.kept k5 (λ hm=>by have:=aB b hm;omega),h.hp,h.eK.bu k5 (λ x hx=>.inr ⟨eI x hx _ (by decide),eI x hx _ (by decide)⟩),⟨?_,λ y hy=>?_⟩,yK h.res k5 (λ x hx=>.inr (eI x hx _ (by decide))),zY h.below k5 (by omega) (λ x hx=>by have:=aB x hx;omega),hb⟩
 ·rw[zsl,List.length_append];exact ay
 ·rcases List.mem_append.1 hy with hy | hy
  ·exact (h.rules.each y hy).bu k5 (λ x hx=>.inr ⟨eI x hx _ (by decide),eI x hx _ (by decide)⟩)
  ·simp at hy;subst hy;exact hr.bu k5 (λ x hx=>.inr ⟨eI x hx _ (by decide),eI x hx _ (by decide)⟩)
def z01 (w:W8)(s:B8)(P:Bool × Nat × List vY × List xU)(e:Ending)(w':W8):Prop:=
 Below w.heap.size w w'/\(P.1=false->e=.returned (.tuple #[.agg #[.slice none 0 0,.slice none 0 0],.int .i64 (zF s P.2.1).2.1,.bool false])) /\
 (P.1=true->∃ (a:O8) (n c:Nat) (a':O8) (n' c':Nat) (rs:List PR) (ms:List (xU × Value)),e=.returned (.tuple #[.agg #[.slice a n c,.slice a' n' c'],.int .i64 0,.bool true])/\iq w' w.heap.size (.slice a n c) rs/\rs.map (·.R)=P.2.2.1/\ey w' w.heap.size (.slice a' n' c') ms/\ms.map (·.1)=P.2.2.2/\rs.length<=30/\ms.length<=120)
theorem zrl:(Tryz.prog.info? 123).map (λ i=>(i.zero,i.size,i.bytes))=some (some (.agg #[.string { data:=#[] },.slice none 0 0,.slice none 0 0]),3,64):=by kernel_rfl
theorem z4j (w1:W8)(o:Obj)(r:PR)(j:Nat)(u:Value)(h:r.cells[j]?=some u):((w1.alloc o).alloc (Obj.cells #[.string r.R.pd,r.hv,r.bv] 123)).cell? ((⟨w1.heap.size+1,0,none⟩:Addr).add j)=some u:=by
 have e:(⟨w1.heap.size+1,0,none⟩:Addr).add j=⟨w1.heap.size+1,j,none⟩:=by unfold Addr.add;split <;> simp_all
 rw[e,World.cell?_alloc_at _ _ _ _ (by simp)];simpa[PR.cells] using h
theorem z9z (R:vY)(a:O8)(n c:Nat)(a':O8)(n' c':Nat)(bs:List (vK × Value)):∀ u∈(PR.mk R (.slice a n c) bs (.slice a' n' c')).cells,u.oneCell'=true:=by
 intro u hu;simp[PR.cells] at hu;rcases hu with rfl | rfl | rfl <;> rfl
theorem yb4 (aL:Below (w.alloc (Obj.cells #[.slice none 0 0,.slice none 0 0] 100)).heap.size (w.alloc (Obj.cells #[.slice none 0 0,.slice none 0 0] 100)) w1):
  BL w w1.heap.size s [] 0 0 [] (.slice none 0 0) (.slice none 0 0) (w1.alloc (Obj.cells #[.string s,.int .i64 (zF s 0).1,.int .i64 (zF s 0).2.1,.int .i64 (zF s 0).2.2,.int .i64 0,.slice none 0 0] 163)):=by
 have hz:=aL.size;simp at hz;refine⟨⟨by simp,?_,?_,?_,?_,?_,?_,?_⟩,Nat.zero_le _,⟨World.ownsRow_nil _ _ _ _,by simp⟩,⟨World.ownsRow_nil _ _ _ _,by simp⟩,?_,?_,by omega⟩
 all_goals first | (rw[World.cell?_alloc_at _ _ _ _ rfl];rfl) | (intro o;rw[World.frozen?_alloc_at _ _ _ _ rfl];done) | skip
 ·rw[Below.heap_alloc _ _ _ (by omega),aL.block _ (by simp)];exact heap_alloc_new w _
 ·exact ((B9.alloc L9 _).trans (aL.mono (by simp))).alloc (by omega) _
theorem zj8 {u0 u1:Value}(h0:w1.cell? ⟨n,0,none⟩=some u0)(h1:w1.cell? ⟨n,1,none⟩=some u1)(v0 v1:Value):((w1.setCell ⟨n,0,none⟩ v0).setCell ⟨n,1,none⟩ v1).cell? ⟨n,0,none⟩=some v0/\((w1.setCell ⟨n,0,none⟩ v0).setCell ⟨n,1,none⟩ v1).cell? ⟨n,1,none⟩=some v1:=
 ⟨by rw[yC (by omega)];exact qT h0,qT (by rw[yC (by omega)];exact h1)⟩
theorem zuu (s:B8)(p:Nat)(rs:List vY)(ms:List xU)(h:rs.length<=30):jW s (31-rs.length) p rs ms =
  if (zF s p).1=0 then (true,p,rs,ms)
  else if rs.length=30 then (false,p,rs,ms)
  else if (vG s rs.length p ms).1 then jW s (31-(rs.length+1)) (vG s rs.length p ms).2.1 (rs++[(vG s rs.length p ms).2.2.1]) (vG s rs.length p ms).2.2.2
  else (false,(vG s rs.length p ms).2.1,rs,(vG s rs.length p ms).2.2.2):=by
 have e:31-rs.length=(31-(rs.length+1))+1:=by omega
 rw[e,jW]
theorem zy8 (w:W8)(s:B8)(hs:s.size<=2000000):
  Calls Tryz.prog 45 #[.string s] w (z01 w s (yL s)):=by
 have bM:s.size<=maxLen:=by unfold maxLen;omega
 obtain⟨i0,hi,bL,aY,bg⟩:=info_parts zrl;go_enter Tryz.func45,Tryz.ntmps45;go_wp2_with fail;refine (zmt s 0 (Nat.zero_le _) bM _).mono ?_;rintro e w1 ⟨rfl,aL⟩;have aP:=yb4 (s:=s) aL;clear aL;go_wp2_with fail
 go_loopg [6] 32 (λ g rv wr=>∃ (rs:List PR) (ms:List (xU × Value)) (p num:Nat) (mv:Value),rs.length<=30/\31-rs.length<=g/\ms.length<=4*rs.length/\BL w w1.heap.size s rs p num ms mv rv wr/\yL s=jW s (31-rs.length) p (rs.map (·.R)) (ms.map (·.1)))
 exact⟨[],[],0,0,_,by simp,by simp,by simp,aP,rfl⟩
 case round=>
  clear aP;obtain⟨rs,ms,p,num,mv,hl,hg,bh,hinv,aE⟩:=hrel;obtain⟨a1,ei,rfl⟩:=zD hinv.rules.row;obtain⟨a2,lX,rfl⟩:=zD hinv.eK.row;have aP:=zuu s p (rs.map (·.R)) (ms.map (·.1)) (by simpa using hl);rw[List.length_map] at aP;have HF:=zC (aE.trans aP);clear aE aP;have bt:=hinv.hp;obtain⟨aH,c0,c1,c2,c3,c4,c5,fz⟩:=hinv.dx;have eo:=hinv.bw;obtain⟨r0,f0⟩:=zB hinv.res 0;obtain⟨r1,f1⟩:=zB hinv.res 1;have HI:=zC hinv;clear hinv
  by_cases h0:(zF s p).1=0
  ·have Pf:((zF s p).1 != 0)=false:=(by simp[h0]);have fw:=zC ((zA HF).trans (if_pos h0));have HE:=zC h0;clear HF h0;go_wp2_with fail;obtain⟨q0,q1⟩:=zj8 r0 r1 (.slice a1 rs.length ei) (.slice a2 ms.length lX);refine bodyPost_ret (v:=.tuple #[.agg #[.slice a1 rs.length ei,.slice a2 ms.length lX],.int .i64 0,.bool true]) (by simp[results,Tryz.results45,go_sem,q0,q1]) rfl ?_;have kk:=zby wr w.heap.size (.slice a1 rs.length ei) (.slice a2 ms.length lX);have i:=zA HI;have oJ:∀ e,100≠e->dW wr e w.heap.size:=λ e he=>zds i.res he
   rw[zA fw];refine⟨zY i.below kk (by omega) (by simp),λ e=>(by cases e),λ _=>⟨_,_,_,_,_,_,rs,ms,rfl,(i.rules.low (by omega)).bu kk (λ x hx=>?_),rfl,(i.eK.low (by omega)).bu kk (λ x hx=>?_),rfl,hl,by omega⟩⟩
   ·simp at hx;subst hx;exact .inr ⟨oJ _ (by decide),oJ _ (by decide),oJ _ (by decide)⟩
   ·simp at hx;subst hx;exact .inr ⟨oJ _ (by decide),oJ _ (by decide)⟩
  ·have Pf:((zF s p).1 != 0)=true:=(by simp[h0]);have fw:=zC ((zA HF).trans (if_neg h0));have HE:=zC h0;clear HF h0
   by_cases h30:rs.length=30
   ·have Ph:((rs.length:Int)==30)=true:=(by simp;omega);have aC:=zC ((zA fw).trans (if_pos h30));clear fw h30;go_wp2_with fail
    go_region
    all_goals
     go_wp2_with fail;obtain⟨q0,q1⟩:=zj8 r0 r1 (.slice none 0 0) (.slice none 0 0);refine bodyPost_ret (v:=.tuple #[.agg #[.slice none 0 0,.slice none 0 0],.int .i64 (zF s p).2.1,.bool false]) (by simp[results,Tryz.results45,go_sem,q0,q1]) rfl ?_;rw[zA aC];refine⟨zY (zA HI).below ((zby wr w.heap.size (.slice none 0 0) (.slice none 0 0)).drew) (by omega) (by simp),λ _=>rfl,λ e=>(by cases e)⟩
   ·have Ph:((rs.length:Int)==30)=false:=(by simp;omega);have aC:=zC ((zA fw).trans (if_neg h30));have nH:rs.length<30:=(by omega);have HQ:=zC ((zA HI).num rs.length);clear fw h30;go_wp2_with fail;refine (z4k _ w1.heap.size s p rs.length _ ms (zA HQ).dx (zA HQ).eK (by omega) bt hs).mono ?_;rintro e w2 ⟨x,a,n,c,a',n',c',kq,rfl,bn,ik,Kk,AY⟩;clear c0 c1 c2 c3 c4 c5 fz r0 r1 f0 f1;have oP:=bn.size;rw[World.size_setCell] at oP
    cases hP:(vG s rs.length p (ms.map (·.1))).1 with
    | false=>
     have aO:=zC ((zA aC).trans (if_neg (by rw[hP];decide)))
     have Di:w2.heap[w.heap.size]?=some (.cells #[.slice none 0 0,.slice none 0 0] 100 (0,0)):=yK (zA HQ).res bn (λ x hx=>by
      rcases List.mem_cons.1 hx with rfl | hx
      ·exact .inl (by omega)
      ·exact .inr (yH (zA HQ).eK.row (by decide) x hx))
     have dp:Below w.heap.size w w2:=zY (zA HQ).below bn (by simp;omega) (λ x hx=>by
      rcases List.mem_cons.1 hx with rfl | hx
      ·omega
      ·have:=((zA HQ).eK.row.lt x (by simpa using hx)).1;omega)
     have ka:=(zK.refl [] w2).alloc (Obj.cells #[.string x,.slice a n c,.slice a' n' c'] 123);obtain⟨aH,c0,c1,c2,c3,c4,c5,fz⟩:=ik.kept ka (by simp);obtain⟨r0,f0⟩:=zB (yK Di ka (by simp)) 0;obtain⟨r1,f1⟩:=zB (yK Di ka (by simp)) 1;have HB:=zC dp;clear AY Kk bn ik aC hP HQ HI Di ka dp;go_wp2_with fail
     go_region
     all_goals
      go_wp2_with fail;obtain⟨q0,q1⟩:=zj8 r0 r1 (.slice none 0 0) (.slice none 0 0);refine bodyPost_ret (v:=.tuple #[.agg #[.slice none 0 0,.slice none 0 0],.int .i64 (zF s (vG s rs.length p (ms.map (·.1))).2.1).2.1,.bool false]) (by simp[results,Tryz.results45,go_sem,q0,q1]) rfl ?_;rw[zA aO];refine⟨zY ((zA HB).alloc (by omega) _) ((zby _ w.heap.size (.slice none 0 0) (.slice none 0 0)).drew) (by simp;omega) (by simp),λ _=>rfl,λ e=>(by cases e)⟩
    | true=>
     have aO:=zC ((zA aC).trans (if_pos hP));obtain⟨bs,ms',rfl,dD,K5,Yp,mA,lh,qm,XE,eZ⟩:=AY hP;have Pw:=(zA HQ).bJ bn ik eZ dD;have ax:uh w2 (w1.heap.size+1) ⟨(vG s rs.length p (ms.map (·.1))).2.2.1,.slice a n c,bs,.slice a' n' c'⟩:=⟨zG mA (by simp;omega),lh.low (by simp;omega),qm⟩;have bH:=Pw.rules.row;have Su:=zC Pw;have bT:=zC ax;have Wf:=zC K5;clear AY Kk bn ik dD mA lh qm Pw ax aC hP HQ HI K5;go_wp2_with (at_builtin;refine wpList_append_own _ rfl _ _ 75 rfl (w1.heap.size+1) 123 i0 _ 3 64 Tryz.underlying75 hi bL aY bg rfl (by decide) _ _ _ rfl ((bH.alloc _).alloc _) ⟨w2.heap.size+1,0,none⟩ 1 1 (PR.mk (vG s rs.length p (ms.map (·.1))).2.2.1 (.slice a n c) bs (.slice a' n' c')).cells rfl rfl (z4j w2 _ (PR.mk (vG s rs.length p (ms.map (·.1))).2.2.1 (.slice a n c) bs (.slice a' n' c'))) (z9z _ _ _ _ _ _ _ _) (by unfold maxLen;omega) (by omega) (by simp;omega) ?_);intro v5 w5 aq aU hne5;clear hne5;obtain⟨a5,eH,rfl⟩:=zD aq;have Tv:=(zA Su).append (((zK.refl [] w2).alloc _).alloc _) (zA bT) aq aU;have Wx:=zC Tv;clear aq aU bH Tv Su bT;go_wp2_with fail;go_roundg (31-(rs.length+1));exact⟨_,ms',_,_,_,by simp;omega,by simp,by simp;omega,zA Wx,by rw[zA aO,zA Wf];simp⟩;omega
end
end Go.Proofs.YtldkpahaocjdpaaGreat
