/-
  Plain: a body, a rule, rules as the program's reader reads them; how they lie in memory.
-/
import Derived.Test.YtldkpahaocjdpaaGreatE09
import Derived.Deep.DeepAppendRoom
import Derived.ArgAppend
set_option maxHeartbeats 16000000
set_option maxRecDepth 1000000
namespace Go.Proofs.YtldkpahaocjdpaaGreat
section
open Go.RowKit
structure vK where
 neg:Bool
 pd:B8
 ts:List (Bool × B8)
def vK.cells (L:vK)(tv:Value):V8:=[.bool L.neg,.string L.pd,tv]
def zmh (ls:List (vK × Value)):V8:=ls.flatMap λ x=>x.1.cells x.2
theorem zsg (l:List (vK × Value))(A:vK)(tv:Value):zmh (l++[(A,tv)])=zmh l++A.cells tv:=by simp[zmh]
structure iL (w:W8)(base:Nat)(bv:Value)(ls:List (vK × Value)):Prop where
 row:w.ownsRow base 183 3 bv ls.length (zmh ls)
 each:∀ x∈ls,w.ownsRow base 191 1 x.2 x.1.ts.length (xH x.1.ts)
def uH (s:B8)(p:Nat)(pd:B8)(ts:List (Bool × B8)):vK:=⟨(zF s p).1==4,pd,ts⟩
def BS (s:B8)(num p:Nat)(pd:B8)(ts:List (Bool × B8))(pl:Nat->Nat):xU:=⟨num,(zF s p).1==4,pd,ts,(zF s p).2.1,(zF s (yM s p 4)).2.1,pl⟩
def jG (s:B8)(num:Nat):Nat->Nat->List vK->List xU->Bool × Nat × List vK × List xU
 | 0,p,l,ms=>(false,p,l,ms)
 | f+1,p,l,ms=>
  match vD s (yM s p 4) with
  | .no q=>(false,q,l,ms)
  | .yes q pd ts pl=>
   if (zF s q).1=7 then jG s num f (zF s q).2.2 (l++[uH s p pd ts]) (ms++[BS s num p pd ts pl])
   else (decide ((zF s q).1=8),yM s q 8,l++[uH s p pd ts],ms++[BS s num p pd ts pl])
structure vY where
 pd:B8
 ts:List (Bool × B8)
 body:List vK
def su (s:B8)(num p:Nat)(pd:B8)(ts:List (Bool × B8))(pl:Nat->Nat):xU:=⟨num,false,pd,ts,(zF s p).2.1,(zF s p).2.1,pl⟩
def vG (s:B8)(num p:Nat)(ms:List xU):Bool × Nat × vY × List xU:=
 match vD s p with
 | .no q=>(false,q,⟨{ data:=#[] },[],[]⟩,ms)
 | .yes q pd ts pl=>
  if (zF s q).1=8 then (true,(zF s q).2.2,⟨pd,ts,[]⟩,ms++[su s num p pd ts pl])
  else if (zF s q).1=9 then
   ((jG s num 3 (zF s q).2.2 [] (ms++[su s num p pd ts pl])).1,(jG s num 3 (zF s q).2.2 [] (ms++[su s num p pd ts pl])).2.1,⟨pd,ts,(jG s num 3 (zF s q).2.2 [] (ms++[su s num p pd ts pl])).2.2.1⟩,(jG s num 3 (zF s q).2.2 [] (ms++[su s num p pd ts pl])).2.2.2)
  else (false,q,⟨pd,ts,[]⟩,ms++[su s num p pd ts pl])
def jW (s:B8):Nat->Nat->List vY->List xU->Bool × Nat × List vY × List xU
 | 0,p,rs,ms=>(false,p,rs,ms)
 | f+1,p,rs,ms=>
  if (zF s p).1=0 then (true,p,rs,ms)
  else if rs.length=30 then (false,p,rs,ms)
  else if (vG s rs.length p ms).1 then jW s f (vG s rs.length p ms).2.1 (rs++[(vG s rs.length p ms).2.2.1]) (vG s rs.length p ms).2.2.2
  else (false,(vG s rs.length p ms).2.1,rs,(vG s rs.length p ms).2.2.2)
variable {xs:V8} {n size base:Nat} {v:Value} {e:TypeId} {w w':W8}
theorem zZ (h:w.ownsRow base e size v n xs)(hb:∀ g,v.ownBlock=some g->w'.heap[g]?=w.heap[g]?):w'.ownsRow base e size v n xs:=by
 refine⟨h.1,?_⟩;rcases h.2 with hn | ⟨g,cap,cur,rfl,gj,bS,rest⟩
 ·exact .inl hn
 ·exact .inr ⟨g,cap,cur,rfl,gj,(hb g rfl).trans bS,rest⟩
def dW (w:W8)(e:TypeId)(x:Nat):Prop:=∀ c fr,w.heap[x]?≠some (.cells c e fr)
theorem yH {e0:TypeId}(h:w.ownsRow base e0 size v n xs)(bF:e0≠e):∀ x∈v.ownBlock.toList,dW w e x:=by
 intro x hx c fr he;have LG:v.ownBlock=some x:=by simpa using hx
 rcases h.2 with⟨rfl,_⟩ | ⟨g,cap,cur,rfl,_,bS,_⟩
 ·cases LG
 ·injection LG with LG
  simp only at LG;subst LG;rw[he] at bS;injection bS with bS
  injection bS with _ bS _
  exact bF bS.symm
variable {B:List Nat}
theorem xF (h:w.ownsRow base e size v n xs)(k:zK B w w')(hB:∀ x∈B,x<base\/dW w e x):w'.ownsRow base e size v n xs:=by
 refine⟨h.1,?_⟩;rcases h.2 with hn | ⟨g,cap,cur,rfl,gj,bS,rest⟩
 ·exact .inl hn
 ·refine .inr ⟨g,cap,cur,rfl,gj,?_,rest⟩
  rw[k.block g (Array.getElem?_eq_some_iff.1 bS).1 (λ hm=>by
   rcases hB g hm with h1 | h1
   ·omega
   ·exact h1 _ _ bS)]
  exact bS
theorem zK.step {C:List Nat}{a:W8}(h:zK B a w)(k:zK C w w')(hC:∀ x∈C,x∈B\/a.heap.size<=x):zK B a w':=
 ⟨k.os.trans h.os,k.tape.trans h.tape,k.output.trans h.output,Nat.le_trans h.size k.size,λ i hi hn=>(k.block i (Nat.lt_of_lt_of_le hi h.size) (λ hm=>by
  rcases hC i hm with h1 | h1
  ·exact hn h1
  ·omega)).trans (h.block i hi hn)⟩
variable {ls:List (vK × Value)} {bv:Value}
theorem iL.bu (h:iL w base bv ls)(k:zK B w w')(hB:∀ x∈B,x<base\/(dW w 183 x/\dW w 191 x)):iL w' base bv ls:=
 ⟨xF h.row k (λ x hx=>(hB x hx).imp id And.left),λ y hy=>xF (h.each y hy) k (λ x hx=>(hB x hx).imp id And.right)⟩
theorem iL.low {base':Nat}(h:iL w base bv ls)(hb:base'<=base):iL w base' bv ls:=
 ⟨zG h.row hb,λ y hy=>zG (h.each y hy) hb⟩
variable {ms:List (xU × Value)} {mv:Value}
theorem ey.bu (h:ey w base mv ms)(k:zK B w w')(hB:∀ x∈B,x<base\/(dW w 221 x/\dW w 191 x)):ey w' base mv ms:=
 ⟨xF h.row k (λ x hx=>(hB x hx).imp id And.left),λ y hy=>xF (h.each y hy) k (λ x hx=>(hB x hx).imp id And.right)⟩
structure ye (w:W8)(b:Nat)(s:B8)(num:Nat)(mv:Value)(ls:List (vK × Value))(p:Nat)(ms:List (xU × Value))(gq bv:Value)(wr:W8):Prop where
 dx:dT wr b s p num gq
 hp:p<=s.size
 eK:ey wr (b+1) gq ms
 lits:iL wr w.heap.size bv ls
 kept:zK (b::mv.ownBlock.toList) w wr
 at_:∀ k,gq.ownBlock=some k->mv.ownBlock=some k\/w.heap.size<=k
 bw:b<w.heap.size
variable {p' p num b:Nat} {wr w1:W8} {gq:Value} {s:B8}
theorem ye.take (h:ye w b s num mv ls p ms gq bv wr)(k:zK [b] wr w1)(hr:dT w1 b s p' num gq)(hp:p'<=s.size):ye w b s num mv ls p' ms gq bv w1:=
 have h2:=h.bw
 ⟨hr,hp,h.eK.kept k (by simp),h.lits.bu k (by simp;omega),h.kept.step k (by simp),h.at_,h.bw⟩
theorem ye.lit {GL:Value}{ms':List (xU × Value)}(h:ye w b s num mv ls p ms gq bv wr)(k:zK (b::gq.ownBlock.toList) wr w1)(hr:dT w1 b s p' num GL)(hp:p'<=s.size)(hm:ey w1 (b+1) GL ms')(du:∀ k,GL.ownBlock=some k->gq.ownBlock=some k\/wr.heap.size<=k):ye w b s num mv ls p' ms' GL bv w1:=by
 have h2:=h.bw;have hz:=h.kept.size;refine⟨hr,hp,hm,h.lits.bu k (λ x hx=>?_),h.kept.step k (λ x hx=>?_),λ x hx=>?_,h.bw⟩
 ·rcases List.mem_cons.1 hx with rfl | hx
  ·exact .inl h2
  ·exact .inr ⟨yH h.eK.row (by decide) x hx,yH h.eK.row (by decide) x hx⟩
 ·rcases List.mem_cons.1 hx with rfl | hx
  ·exact .inl (by simp)
  ·rcases h.at_ x (by simpa using hx) with h1 | h1
   ·exact .inl (by simp[h1])
   ·exact .inr h1
 ·rcases du x hx with h1 | h1
  ·exact h.at_ x h1
  ·exact .inr (by omega)
theorem ye.append {W w5:W8}(h:ye w b s num mv ls p ms gq bv w1)(kW:zK [] w1 W){L:vK}{tv nC:Value}
  (ht:w1.ownsRow w.heap.size 191 1 tv L.ts.length (xH L.ts)) (ay:w5.ownsRow w.heap.size 183 3 nC (ls.length+1) (zmh ls++L.cells tv)) (hg:W.grownBy w5 bv.ownBlock):
  ye w b s num mv (ls++[(L,tv)]) p ms gq nC w5:=by
 have h2:=h.bw;have k5:zK bv.ownBlock.toList w1 w5:=((kW.mono (C:=bv.ownBlock.toList) (by simp))).grown hg (λ k e=>.inr (by simp[e]));have aB:∀ k,bv.ownBlock=some k->w.heap.size<=k:=λ k e=>(h.lits.row.lt k e).1
 have kR:b∉bv.ownBlock.toList:=λ hm=>by have:=aB b (by simpa using hm);omega
 have eI:∀ {v:Value} {n:Nat} {xs:V8},w1.ownsRow w.heap.size 191 1 v n xs->w5.ownsRow w.heap.size 191 1 v n xs:=λ {v n xs} hx=>xF hx k5 (λ x hx=>.inr (yH h.lits.row (by decide) x hx))
 refine⟨h.dx.kept k5 kR,h.hp,h.eK.bu k5 (λ x hx=>.inr ⟨yH h.lits.row (by decide) x hx,yH h.lits.row (by decide) x hx⟩),⟨?_,λ x hx=>?_⟩,h.kept.step k5 (λ x hx=>.inr (aB x (by simpa using hx))),h.at_,h.bw⟩
 ·rw[zsg,List.length_append];exact ay
 ·rcases List.mem_append.1 hx with hx | hx
  ·exact eI (h.lits.each x hx)
  ·simp at hx;subst hx;exact eI ht
end
section
open Go.RowKit
theorem ya9:(Tryz.prog.info? 183).map (λ i=>(i.zero,i.size,i.bytes))=some (some (.agg #[.bool false,.string { data:=#[] },.slice none 0 0]),3,48):=by kernel_rfl
theorem z4d (w1:W8)(o:Obj)(L:vK)(tv:Value)(j:Nat)(u:Value)(h:(L.cells tv)[j]?=some u):((w1.alloc o).alloc (Obj.cells #[.bool L.neg,.string L.pd,tv] 183)).cell? ((⟨w1.heap.size+1,0,none⟩:Addr).add j)=some u:=by
 have e:(⟨w1.heap.size+1,0,none⟩:Addr).add j=⟨w1.heap.size+1,j,none⟩:=by unfold Addr.add;split <;> simp_all
 rw[e,World.cell?_alloc_at _ _ _ _ (by simp)];simpa[vK.cells] using h
theorem z77 (L:vK)(a:O8)(n c:Nat):∀ u∈L.cells (.slice a n c),u.oneCell'=true:=by
 intro u hu;simp[vK.cells] at hu;rcases hu with rfl | rfl | rfl <;> rfl
variable {p:Nat} {s:B8}
theorem zp4 {k:Int}(h:p<=s.size):yM s p k<=s.size:=by
 unfold yM;split
 ·exact (xT s p h).2
 ·exact h
theorem z4n (s:B8)(f:Nat):∀ {p:Nat} {l:List (Bool × B8)} {pl:Nat->Nat},p<=s.size->(yB s f p l pl).2.1<=s.size:=by
 induction f with
 | zero=>intro p l pl h;exact h
 | succ f ih=>
  intro p l pl h;have h1:=(xT s p h).2;rw[yB]
  split
  ·split
   ·exact ih (xT s _ h1).2
   ·exact zp4 h1
  ·exact h
theorem zww (h:p<=s.size):match vD s p with | .no q=>q<=s.size | .yes q _ _ _=>q<=s.size:=by
 have h1:=(xT s p h).2;have h2:=(xT s _ h1).2;have h3:=z4n s 4 (l:=[]) (pl:=λ _=>0) h2;unfold vD
 by_cases c1:(zF s p).1=2
 ·rw[if_pos c1]
  by_cases c2:(zF s (zF s p).2.2).1=5
  ·rw[if_pos c2]
   by_cases c3:(yB s 4 (zF s (zF s p).2.2).2.2 [] (λ _=>0)).1=true
   ·rw[if_pos c3];exact h3
   ·rw[if_neg c3];exact h3
  ·rw[if_neg c2];exact h1
 ·rw[if_neg c1];exact h
theorem zy4 (s:B8)(num p:Nat)(l:List vK)(ms:List xU)(n:Nat)(hn:n<3):jG s num (3-n) p l ms=match vD s (yM s p 4) with
  | .no q=>(false,q,l,ms)
  | .yes q pd ts pl=>
   if (zF s q).1=7 then jG s num (3-(n+1)) (zF s q).2.2 (l++[uH s p pd ts]) (ms++[BS s num p pd ts pl])
   else (decide ((zF s q).1=8),yM s q 8,l++[uH s p pd ts],ms++[BS s num p pd ts pl]):=by
 have e:3-n=(3-(n+1))+1:=by omega
 rw[e,jG]
 all_goals (cases vD s (yM s p 4) <;> rfl)
def zvh (w:W8)(b:Nat)(s:B8)(num:Nat)(mv:Value)(n0:Nat)(P:Bool × Nat × List vK × List xU)(e:Ending)(w':W8):Prop:=
 ∃ (a:O8) (n c:Nat) (kq:Value) (ls:List (vK × Value)) (ms':List (xU × Value)),e=.returned (.tuple #[.slice a n c,.bool P.1])/\zK (b::mv.ownBlock.toList) w w'/\dT w' b s P.2.1 num kq /\
  ey w' (b+1) kq ms'/\ms'.map (·.1)=P.2.2.2/\ms'.length<=n0+3/\(∀ k,kq.ownBlock=some k->mv.ownBlock=some k\/w.heap.size<=k)/\(P.1=true->iL w' w.heap.size (.slice a n c) ls/\ls.map (·.1)=P.2.2.1/\ls.length<=3/\P.2.1<=s.size)
theorem z6r {w:W8}{b num:Nat}{mv:Value}{ls:List (vK × Value)}{ms:List (xU × Value)}{gq bv:Value}{wr:W8}{n0:Nat}{l:List vK}(h:ye w b s num mv ls p ms gq bv wr)(hn:ms.length<=n0+3):zvh w b s num mv n0 (false,p,l,ms.map (·.1)) (.returned (.tuple #[.slice none 0 0,.bool false])) wr:=
 ⟨none,0,0,gq,[],ms,rfl,h.kept,h.dx,h.eK,rfl,hn,h.at_,λ e=>by cases e⟩
theorem z4a (w:W8)(b:Nat)(s:B8)(pos num:Nat)(mv:Value)(iB:List (xU × Value))(h:dT w b s pos num mv)(gU:ey w (b+1) mv iB)(bh:iB.length<=900)(aJ:pos<=s.size)(hs:s.size<=2000000):
  Calls Tryz.prog 117 #[.pointer (some ⟨b,0,none⟩)] w (zvh w b s num mv iB.length (jG s num 3 pos [] (iB.map (·.1)))):=by
 have bM:s.size<=maxLen:=by unfold maxLen;omega
 obtain⟨i0,hi,bL,aY,bg⟩:=info_parts ya9;have aP:ye w b s num mv [] pos iB mv (.slice none 0 0) w:=⟨h,aJ,gU,⟨World.ownsRow_nil _ _ _ _,by simp⟩,zK.refl _ _,λ k e=>.inl e,h.lt⟩;clear h gU;go_enter Tryz.func117,Tryz.ntmps117;go_wp2_with fail
 go_loopg [4] 5 (λ g bv wr=>∃ (ls:List (vK × Value)) (ms:List (xU × Value)) (p:Nat) (gq:Value),ls.length<=3/\4-ls.length<=g/\ms.length=iB.length+ls.length/\ye w b s num mv ls p ms gq bv wr/\jG s num 3 pos [] (iB.map (·.1))=jG s num (3-ls.length) p (ls.map (·.1)) (ms.map (·.1)))
 exact⟨[],iB,pos,mv,by simp,by simp,by simp,aP,rfl⟩
 case round=>
  clear aP;obtain⟨ls,ms,p,gq,mf,hg,nx,hinv,aE⟩:=hrel;obtain⟨a1,ei,rfl⟩:=zD hinv.lits.row;have HF:=zC aE;clear aE;have bt:=hinv.hp
  by_cases h3:ls.length=3
  ·have Xl:¬ ((ls.length:Int)<3):=(by omega);have HI:=zC hinv;clear hinv;go_wp2_with fail
   go_ret2
   rw[zA HF,h3];exact z6r (zA HI) (by omega)
  ·have Xl:(ls.length:Int)<3:=(by omega);have lh:ls.length<3:=(by omega);have fw:=zC ((zA HF).trans (zy4 s num p (ls.map (·.1)) (ms.map (·.1)) ls.length lh));have Ra:w.heap.size<=wr.heap.size:=hinv.kept.size;clear HF h3;go_wp2_with fail;refine (z76 wr b s p num gq ms hinv.dx hinv.eK (by omega) bt hs).mono ?_;intro e w1 hpost;have hq:=zww (zp4 (k:=4) bt)
   cases hr:vD s (yM s p 4) with
   | no q=>
    rw[hr] at hpost hq fw;obtain⟨rfl,aW,jm⟩:=hpost;have aG:=hinv.take aW jm hq;have HI:=zC aG;clear hinv aW jm hr aG;go_wp2_with fail
    go_ret2
    rw[zA fw];have kk:=(zK.refl [] w1).alloc (Obj.cells #[.bool ((zF s p).1==4),.string { data:=#[] },.slice none 0 0] 183);have hI:=zA HI;exact⟨none,0,0,gq,[],ms,rfl,hI.kept.alloc _,hI.dx.kept kk (by simp),hI.eK.bu kk (by simp),rfl,by omega,hI.at_,λ e=>by cases e⟩
   | yes q pd ts pl=>
    rw[hr] at hpost hq fw;obtain⟨tv,GL,rfl,aW,jm,dH,pG,dY⟩:=hpost;obtain⟨br,bD,rfl⟩:=zD pG;have aG:=hinv.lit aW jm hq dH dY;have mA:=zG pG Ra;have bH:=aG.lits.row;have GK:=aG.kept.size;have HI:=zC aG;clear hinv aW jm hr dH pG dY aG;go_wp2_with (at_builtin;refine wpList_append_own _ rfl _ _ 121 rfl w.heap.size 183 i0 _ 3 48 Tryz.underlying121 hi bL aY bg rfl (by decide) _ _ _ rfl ((bH.alloc _).alloc _) ⟨w1.heap.size+1,0,none⟩ 1 1 ((uH s p pd ts).cells (.slice br ts.length bD)) rfl rfl (z4d w1 _ (uH s p pd ts) _) (z77 _ _ _ _) (by unfold maxLen;omega) (by omega) (by simp;omega) ?_);intro v5 w5 aq aU hne5;clear hne5;obtain⟨a5,eH,rfl⟩:=zD aq;have aI:=(zA HI).append (L:=uH s p pd ts) (((zK.refl [] w1).alloc _).alloc _) mA aq aU;have ym:=zC aI;clear aq aU bH HI aI mA;go_wp2_with fail;refine (xI s q num GL 7 b _ (zA ym).dx hq bM).mono ?_;rintro e w7 ⟨rfl,dR,nZ⟩
    cases hc:(zF s q).1==7 with
    | true=>
     have gY:(zF s q).1=7:=(by simpa using hc);have e7:yM s q 7=(zF s q).2.2:=(by unfold yM;rw[if_pos hc]);rw[e7] at nZ;have aD:=(zA ym).take dR nZ (xT s q hq).2;have aC:=zC ((zA fw).trans (if_pos gY));have Jc:=zC aD;clear fw ym dR nZ hc gY e7 aD;go_wp2_with fail;go_roundg (4-(ls.length+1));exact⟨_,_,_,_,by simp;omega,by simp,by simp;omega,zA Jc,by simpa[uH,BS] using zA aC⟩;omega
    | false=>
     have gY:¬ (zF s q).1=7:=(by simpa using hc);have e7:yM s q 7=q:=(by unfold yM;rw[if_neg (by rw[hc];decide)]);rw[e7] at nZ;have aD:=(zA ym).take dR nZ hq;have aC:=zC ((zA fw).trans (if_neg gY));have Jc:=zC aD;clear fw ym dR nZ hc gY e7 aD;go_wp2_with fail;refine (xI s q num GL 8 b _ (zA Jc).dx hq bM).mono ?_;rintro e w8 ⟨rfl,gB,xm⟩;have bU:=(zA Jc).take gB xm (zp4 hq);have BW:=zC bU;clear Jc gB xm bU;go_wp2_with fail
     go_ret2
     rw[zA aC];have hI:=zA BW;have hb:decide ((zF s q).1=8)=((zF s q).1==8):=(by rw[Bool.eq_iff_iff];simp);refine⟨a5,ls.length+1,eH,_,_,_,by rw[hb];rfl,hI.kept,hI.dx,hI.eK,by simp[BS],by simp;omega,hI.at_,λ _=>⟨by simpa using hI.lits,by simp[uH],by simp;omega,hI.hp⟩⟩
end
section
open Go.RowKit
variable {fr:Nat × Nat} {e:TypeId} {c:Array Value} {n:Nat} {w:W8}
theorem zds {e':TypeId}(hb:w.heap[n]?=some (.cells c e fr))(bF:e≠e'):dW w e' n:=by
 intro c' fr' h;rw[hb] at h;injection h with h
 injection h with _ h _
 exact bF h
variable {w':W8}
theorem yK {B:List Nat}(hb:w.heap[n]?=some (.cells c e fr))(k:zK B w w')(hB:∀ x∈B,x≠n\/dW w e x):w'.heap[n]?=some (.cells c e fr):=by
 rw[k.block n (Array.getElem?_eq_some_iff.1 hb).1 (λ hm=>by
  rcases hB n hm with h1 | h1
  ·exact h1 rfl
  ·exact h1 _ _ hb)]
 exact hb
def z6g (w:W8)(b:Nat)(s:B8)(num:Nat)(mv:Value)(n0:Nat)(P:Bool × Nat × vY × List xU)(e:Ending)(w':W8):Prop:=
 ∃ (x:B8) (a:O8) (n c:Nat) (a':O8) (n' c':Nat) (kq:Value),e=.returned (.tuple #[.agg #[.string x,.slice a n c,.slice a' n' c'],.bool P.1])/\zK (b::mv.ownBlock.toList) w w'/\dT w' b s P.2.1 num kq/\(∀ k,kq.ownBlock=some k->mv.ownBlock=some k\/w.heap.size<=k) /\
  (P.1=true->∃ (bs:List (vK × Value)) (ms':List (xU × Value)),x=P.2.2.1.pd/\ey w' (b+1) kq ms'/\ms'.map (·.1)=P.2.2.2/\ms'.length<=n0+4/\w'.ownsRow w.heap.size 191 1 (.slice a n c) P.2.2.1.ts.length (xH P.2.2.1.ts)/\iL w' w.heap.size (.slice a' n' c') bs/\bs.map (·.1)=P.2.2.1.body/\bs.length<=3/\P.2.1<=s.size)
structure Hk (w:W8)(b:Nat)(s:B8)(num:Nat)(mv:Value)(h:Nat)(pd:B8)(tv:Value)(ts:List (Bool × B8))(p:Nat)(ms:List (xU × Value))(gq:Value)(wr:W8):Prop where
 dx:dT wr b s p num gq
 eK:ey wr (b+1) gq ms
 res:wr.heap[w.heap.size]?=some (.cells #[.string { data:=#[] },.slice none 0 0,.slice none 0 0] 123 (0,0))
 hd:wr.heap[h]?=some (.cells #[.string pd,tv] 79 (0,0))
 Ry:wr.ownsRow w.heap.size 191 1 tv ts.length (xH ts)
 kept:zK (b::mv.ownBlock.toList) w wr
 at_:∀ k,gq.ownBlock=some k->mv.ownBlock=some k\/w.heap.size<=k
 bw:b<w.heap.size
 hw:w.heap.size<h
variable {wr w1:W8} {gq tv mv:Value} {ms:List (xU × Value)} {p h num b:Nat} {ts:List (Bool × B8)} {pd s:B8}
theorem Hk.take {p':Nat}(i:Hk w b s num mv h pd tv ts p ms gq wr)(k:zK [b] wr w1)(hr:dT w1 b s p' num gq):Hk w b s num mv h pd tv ts p' ms gq w1:=
 have h1:=i.bw;have h2:=i.hw
 ⟨hr,i.eK.kept k (by simp),yK i.res k (by simp;omega),yK i.hd k (by simp;omega),yI i.Ry k (by simp;omega),i.kept.step k (by simp),i.at_,i.bw,i.hw⟩
theorem Hk.ends (i:Hk w b s num mv h pd tv ts p ms gq wr)(k:zK [w.heap.size] wr w1):
  zK (b::mv.ownBlock.toList) w w1/\dT w1 b s p num gq/\ey w1 (b+1) gq ms/\w1.ownsRow w.heap.size 191 1 tv ts.length (xH ts):=by
 have h1:=i.bw;refine⟨i.kept.step k (by simp),i.dx.kept k (by simp;omega),i.eK.bu k (λ x hx=>?_),xF i.Ry k (λ x hx=>?_)⟩
 ·simp at hx;subst hx;exact .inr ⟨zds i.res (by decide),zds i.res (by decide)⟩
 ·simp at hx;subst hx;exact .inr (zds i.res (by decide))
theorem z3a {base:Nat}{bv:Value}{ls:List (vK × Value)}(h:iL w base bv ls)(hb:w.heap[n]?=some (.cells c 123 (0,0)))(k:zK [n] w w'):iL w' base bv ls:=
 h.bu k (λ x hx=>by simp at hx;subst hx;exact .inr ⟨zds hb (by decide),zds hb (by decide)⟩)
theorem z4k (w:W8)(b:Nat)(s:B8)(pos num:Nat)(mv:Value)(iB:List (xU × Value))(h:dT w b s pos num mv)(gU:ey w (b+1) mv iB)(bh:iB.length<=800)(aJ:pos<=s.size)(hs:s.size<=2000000):
  Calls Tryz.prog 74 #[.pointer (some ⟨b,0,none⟩)] w (z6g w b s num mv iB.length (vG s num pos (iB.map (·.1)))):=by
 have bM:s.size<=maxLen:=by unfold maxLen;omega
 have h0:=h.kept ((zK.refl [] w).alloc (.cells #[.string { data:=#[] },.slice none 0 0,.slice none 0 0] 123)) (by simp);have Ax:=gU.kept ((zK.refl [] w).alloc (.cells #[.string { data:=#[] },.slice none 0 0,.slice none 0 0] 123)) (by simp);obtain⟨aH,c0,c1,c2,c3,c4,c5,fz⟩:=h;have nj:(w.alloc (.cells #[.string { data:=#[] },.slice none 0 0,.slice none 0 0] 123)).heap[w.heap.size]?=some (.cells #[.string { data:=#[] },.slice none 0 0,.slice none 0 0] 123 (0,0)):=heap_alloc_new w _;have mD:=zC nj;have hq:=zww aJ;have lf:=zC (λ k (e:mv.ownBlock=some k)=>(gU.row.lt k e).2);have HP:vG s num pos (iB.map (·.1))=_:=vG.eq_1 s num pos (iB.map (·.1));have HP:=zC HP;clear nj gU;go_enter Tryz.func74,Tryz.ntmps74;go_wp2_with fail;refine (zmf _ b s pos num mv false (zF s pos).2.1 iB h0 Ax (by omega) aJ hs).mono ?_;intro e w1 hpost;clear c0 c1 c2 c3 c4 c5 fz h0 Ax
 cases hr:vD s pos with
 | no q=>
  rw[hr] at hpost hq HP;obtain⟨rfl,aW,jm⟩:=hpost;have aL:=yK (zA mD) aW (by simp;omega);obtain⟨a0,f0⟩:=zB aL 0;obtain⟨a1,f1⟩:=zB aL 1;obtain⟨a2,f2⟩:=zB aL 2;have mz:w.heap.size<w1.heap.size:=by have:=aW.size;simp at this;omega
  have HK:=zC aW;have HR:=zC jm;clear aW jm hr aL mD;go_wp2_with fail;obtain⟨q0,q1,q2⟩:=z93 a0 a1 a2 (.string { data:=#[] }) (.slice none 0 0) (.slice none 0 0);have q0:=qY q0;have q1:=qY q1;have q2:=qY q2;have k3:=(zyo w1 w.heap.size (.string { data:=#[] }) (.slice none 0 0) (.slice none 0 0)).alloc (Obj.cells #[.string { data:=#[] },.slice none 0 0] 79);refine bodyPost_ret (v:=.tuple #[.agg #[.string { data:=#[] },.slice none 0 0,.slice none 0 0],.bool false]) (by simp[results,Tryz.results74,go_sem,q0,q1,q2]) rfl ?_;rw[zA HP];exact⟨_,_,_,_,_,_,_,mv,rfl,(((zK.refl _ w).alloc _).step (zA HK) (by simp)).step k3 (by simp),(zA HR).kept k3 (by simp;omega),λ k e=>.inl e,λ e=>by cases e⟩
 | yes q pd ts pl=>
  rw[hr] at hpost hq HP;obtain⟨tv,gq,rfl,aW,jm,dH,pG,dY⟩:=hpost;obtain⟨br,bD,rfl⟩:=zD pG;have mz:w.heap.size<w1.heap.size:=by have:=aW.size;simp at this;omega
  have aL:=yK (zA mD) aW (λ x hx=>by
   rcases List.mem_cons.1 hx with rfl | hx
   ·exact .inl (by omega)
   ·have:=zA lf x (by simpa using hx);exact .inl (by omega))
  have ka:=(zK.refl [] w1).alloc (Obj.cells #[.string pd,.slice br ts.length bD] 79);have hI:Hk w b s num mv w1.heap.size pd (.slice br ts.length bD) ts q (iB++[(su s num pos pd ts pl,.slice br ts.length bD)]) gq (w1.alloc (Obj.cells #[.string pd,.slice br ts.length bD] 79)):=by
   refine⟨jm.kept ka (by simp),dH.bu ka (by simp),yK aL ka (by simp),heap_alloc_new _ _,xF (zG pG (by simp)) ka (by simp),((((zK.refl _ w).alloc _).step aW (by simp;intro x hx;exact .inl (.inr hx))).alloc _),λ k e=>?_,aH,mz⟩;rcases dY k e with h1 | h1
   ·exact .inl h1
   ·exact .inr (by simp at h1;omega)
  have HI:=zC hI;have YD:w.heap.size<w1.heap.size+1:=by omega
  clear aW jm dH pG dY aL ka hI mD hr;go_wp2_with fail;refine (xI s q num gq 8 b _ (zA HI).dx hq bM).mono ?_;rintro e w2 ⟨rfl,bn,ik⟩;have dG:=(zA HI).take bn ik;have te:=bn.size;rw[World.size_alloc] at te;clear HI bn ik;obtain⟨d0,g0⟩:=zB dG.hd 0;obtain⟨d1,g1⟩:=zB dG.hd 1
  cases h8:(zF s q).1==8 with
  | true=>
   have JX:(zF s q).1=8:=(by simpa using h8);have e8:yM s q 8=(zF s q).2.2:=(by unfold yM;rw[if_pos h8]);rw[e8] at dG;obtain⟨a0,f0⟩:=zB dG.res 0;obtain⟨a1,f1⟩:=zB dG.res 1;obtain⟨a2,f2⟩:=zB dG.res 2;have mE:=zC ((zA HP).trans (if_pos JX));have eA:=zC dG;clear HP h8 JX e8 dG;go_wp2_with fail;obtain⟨q0,q1,q2⟩:=z93 a0 a1 a2 (.string pd) (.slice br ts.length bD) (.slice none 0 0);have k3:=zyo w2 w.heap.size (.string pd) (.slice br ts.length bD) (.slice none 0 0);refine bodyPost_ret (v:=.tuple #[.agg #[.string pd,.slice br ts.length bD,.slice none 0 0],.bool true]) (by simp[results,Tryz.results74,go_sem,q0,q1,q2]) rfl ?_;rw[zA mE];obtain⟨z1,z2,z3,z4⟩:=(zA eA).ends k3;exact⟨_,_,_,_,_,_,_,gq,rfl,z1,z2,(zA eA).at_,λ _=>⟨[],_,rfl,z3,by simp,by simp,z4,⟨World.ownsRow_nil _ _ _ _,by simp⟩,rfl,by simp,(xT s q hq).2⟩⟩
  | false=>
   have JX:¬ (zF s q).1=8:=(by simpa using h8);have e8:yM s q 8=q:=(by unfold yM;rw[if_neg (by rw[h8];decide)]);rw[e8] at dG;have mE:=zC ((zA HP).trans (if_neg JX));have eA:=zC dG;clear HP h8 JX e8 dG d0 d1 g0 g1;go_wp2_with fail;refine (xI s q num gq 9 b _ (zA eA).dx hq bM).mono ?_;rintro e w3 ⟨rfl,eE,lj⟩;have gA:=(zA eA).take eE lj;have YJ:=eE.size;clear eA eE lj
   cases h9:(zF s q).1==9 with
   | false=>
    have JY:¬ (zF s q).1=9:=(by simpa using h9);have e9:yM s q 9=q:=(by unfold yM;rw[if_neg (by rw[h9];decide)]);rw[e9] at gA;obtain⟨a0,f0⟩:=zB gA.res 0;obtain⟨a1,f1⟩:=zB gA.res 1;obtain⟨a2,f2⟩:=zB gA.res 2;have sD:=zC ((zA mE).trans (if_neg JY));have iC:=zC gA;clear mE h9 JY e9 gA;go_wp2_with fail;obtain⟨q0,q1,q2⟩:=z93 a0 a1 a2 (.string { data:=#[] }) (.slice none 0 0) (.slice none 0 0);have k3:=zyo w3 w.heap.size (.string { data:=#[] }) (.slice none 0 0) (.slice none 0 0);refine bodyPost_ret (v:=.tuple #[.agg #[.string { data:=#[] },.slice none 0 0,.slice none 0 0],.bool false]) (by simp[results,Tryz.results74,go_sem,q0,q1,q2]) rfl ?_;rw[zA sD];obtain⟨z1,z2,z3,z4⟩:=(zA iC).ends k3;exact⟨_,_,_,_,_,_,_,gq,rfl,z1,z2,(zA iC).at_,λ e=>by cases e⟩
   | true=>
    have JY:(zF s q).1=9:=(by simpa using h9);have e9:yM s q 9=(zF s q).2.2:=(by unfold yM;rw[if_pos h9]);rw[e9] at gA;have sD:=zC ((zA mE).trans (if_pos JY));have iC:=zC gA;have YE:=(xT s q hq).2;clear mE h9 JY e9 gA;go_wp2_with fail;refine (z4a w3 b s (zF s q).2.2 num gq _ (zA iC).dx (zA iC).eK (by simp;omega) YE hs).mono ?_;rintro e w4 ⟨ab,nb,cb,UW,ls,UU,rfl,pC,il,rX,Gm,Qs,zl,AZ⟩;have bF:∀ x∈(b::gq.ownBlock.toList),x=b\/(dW w3 123 x/\dW w3 79 x/\dW w3 191 x):=λ x hx=>by
     rcases List.mem_cons.1 hx with rfl | hx
     ·exact .inl rfl
     ·exact .inr ⟨yH (zA iC).eK.row (by decide) x hx,yH (zA iC).eK.row (by decide) x hx,yH (zA iC).eK.row (by decide) x hx⟩
    have xe:Hk w b s num mv w1.heap.size pd (.slice br ts.length bD) ts (jG s num 3 (zF s q).2.2 [] ((iB++[(su s num pos pd ts pl,.slice br ts.length bD)]).map (·.1))).2.1 UU UW w4:=by
     have i:=zA iC;have hz:=i.kept.size;refine⟨il,rX,yK i.res pC (λ x hx=>?_),yK i.hd pC (λ x hx=>?_),xF i.Ry pC (λ x hx=>?_),i.kept.step pC (λ x hx=>?_),λ k e=>?_,aH,mz⟩
     ·rcases bF x hx with rfl | hx
      ·exact .inl (by omega)
      ·exact .inr hx.1
     ·rcases bF x hx with rfl | hx
      ·exact .inl (by omega)
      ·exact .inr hx.2.1
     ·rcases bF x hx with rfl | hx
      ·exact .inl aH
      ·exact .inr hx.2.2
     ·rcases List.mem_cons.1 hx with rfl | hx
      ·exact .inl (by simp)
      ·rcases i.at_ x (by simpa using hx) with h1 | h1
       ·exact .inl (by simp[h1])
       ·exact .inr h1
     ·rcases zl k e with h1 | h1
      ·exact i.at_ k h1
      ·exact .inr (by omega)
    have YK:=pC.size;clear pC il rX bF zl;have Qv:((iB++[(su s num pos pd ts pl,.slice br ts.length bD)]).map (·.1))=iB.map (·.1)++[su s num pos pd ts pl]:=(by simp);rw[Qv] at xe Gm AZ ⊢;have HY:=zC AZ;have HM:=zC Gm;have Q9:=(zA iC).kept.size;clear AZ Gm iC;obtain⟨d0,g0⟩:=zB xe.hd 0;obtain⟨d1,g1⟩:=zB xe.hd 1;obtain⟨a0,f0⟩:=zB xe.res 0;obtain⟨a1,f1⟩:=zB xe.res 1;obtain⟨a2,f2⟩:=zB xe.res 2;have Jb:=zC xe;clear xe;go_wp2_with fail;obtain⟨q0,q1,q2⟩:=z93 a0 a1 a2 (.string pd) (.slice br ts.length bD) (.slice ab nb cb);have k3:=zyo w4 w.heap.size (.string pd) (.slice br ts.length bD) (.slice ab nb cb);refine bodyPost_ret (v:=.tuple #[.agg #[.string pd,.slice br ts.length bD,.slice ab nb cb],.bool (jG s num 3 (zF s q).2.2 [] (iB.map (·.1)++[su s num pos pd ts pl])).1]) (by simp[results,Tryz.results74,go_sem,q0,q1,q2]) rfl ?_;rw[zA sD];obtain⟨z1,z2,z3,z4⟩:=(zA Jb).ends k3;refine⟨_,_,_,_,_,_,_,UW,rfl,z1,z2,(zA Jb).at_,λ hy=>?_⟩;obtain⟨y1,y2,y3,y4⟩:=zA HY hy;exact⟨ls,UU,rfl,z3,zA HM,by simp at Qs;omega,z4,z3a (y1.low Q9) (zA Jb).res k3,y2,y3,y4⟩
end
section
open Go.RowKit
def yc (w w':W8)(v v':Value)(n m:Nat):Prop:=
 (∃ g cap,v=.slice (some ⟨g,0,none⟩) n cap/\v'=.slice (some ⟨g,0,none⟩) (n+m) cap/\n+m<=cap/\w.grownBy w' (some g)) \/
 (∃ g cap,v'=.slice (some ⟨g,0,none⟩) (n+m) cap/\w.heap.size<=g/\w.grownBy w' none/\∀ a c,v=.slice a n c->c<n+m)
theorem zbd {P:Program}(w:W8){ops:Array Oper}{rest:List Oper}{o:Oper}{a:Act}{Q:Exit->Act->W8->Prop}(Io:o.guard=none)(s x:Operand)(t:TypeId)
  (ho:o.op=.call { callee:=.builtin .append,args:=#[s,x],argTypes:=#[t,t] })
  (base:Nat) (e:TypeId) (i:TypeInfo) (z:Value) (size bytes:Nat) (ht:P.underlying t=some (.slice e)) (hi:P.info? e=some i) (hz:i.zero=some z)
  (kV:i.size=size) (XG:i.bytes=bytes) (YY:z.cells.size=size) (bj:0<size)
  (ao:O8) (n cap:Nat) (xs:V8) (hs:a.eval s=.slice ao n cap) (ay:w.ownsRow base e size (.slice ao n cap) n xs)
  (ad:Addr) (m c:Nat) (news:V8) (hx:a.eval x=.slice (some ad) m c) (hl:news.length=m*size) (dt:∀ j u,news[j]?=some u->w.cell? (ad.add j)=some u) (h1:∀ u∈news,u.oneCell'=true)
  (hm:0<m) (Xm:n+m<=maxLen) (FV:(n+m)*bytes<=140737488355328) (uv:base<=w.heap.size)
  (h:∀ a' dn w',w'.ownsRow base e size (.slice a' (n+m) dn) (n+m) (xs++news)->yc w w' (.slice ao n cap) (.slice a' (n+m) dn) n m->wpList P ops Q rest (a.put o.dst (.slice a' (n+m) dn)) w'):wpList P ops Q (o::rest) a w:=by
 have hlen:=ay.1;have grow:cap<n+m->wpList P ops Q (o::rest) a w:=λ qq=>by
  refine wpList_append_grows w Io s x t ho e i z size bytes ht hi hz kV XG YY bj ao n cap xs hs ?_ hlen ?_ ad m c news hx hl dt h1 qq Xm FV λ v' w' hr hg=>?_
  ·intro e0;rcases ay.2 with⟨hv,h0⟩ | ⟨g,cp,cur,hv,_⟩
   ·injection hv with h1 h2 h3;exact⟨h0,h3⟩
   ·injection hv with h1 h2 h3;rw[e0] at h1;cases h1
  ·intro b hb j u hj;rcases ay.2 with⟨hv,h0⟩ | ⟨g,cp,cur,hv,_,mP,_,_,ij,nz⟩
   ·injection hv with h1 h2 h3;rw[hb] at h1;cases h1
   ·injection hv with h1 h2 h3
    rw[hb] at h1;injection h1 with h1
    subst h1;have dO:(⟨g,0,none⟩:Addr).add j=⟨g,j,none⟩:=(by unfold Addr.add;split <;> simp_all);rw[dO,cell_of_row w g j cur e (0,0) mP];rw[<-nz,List.getElem?_take] at hj
    split at hj
    ·simpa using hj
    ·cases hj
  ·obtain⟨g,cp,rfl,qu,_⟩:=hr.form (by omega);refine h _ _ _ (zG hr uv) (.inr ⟨g,cp,rfl,qu,hg,λ a0 c0 e0=>?_⟩);injection e0 with _ _ e3
   omega
 rcases ay.2 with⟨hv,h0⟩ | ⟨g,cp,cur,hv,iF,mP,bO,bQ,ij,nz⟩
 ·injection hv with _ _ h3
  exact grow (by omega)
 ·injection hv with h1 h2 h3
  subst h1 h3
  by_cases Ey:n+m<=cap
  ·exact wpList_append_own_spare w Io s x t ho base e i size ht hi kV g n cap xs hs ay ad m c news hx hl dt h1 Ey λ w' hr hg=>h _ _ _ hr (.inl ⟨g,cap,rfl,rfl,Ey,hg⟩)
  ·exact grow (by omega)
def rep (mk:V8)(n:Nat):V8:=(List.replicate n ()).flatMap λ _=>mk
theorem NZ (mk:V8)(n:Nat):(rep mk n).length=n*mk.length:=by
 induction n with
 | zero=>simp[rep]
 | succ n ih=>rw[rep,List.replicate_succ,List.flatMap_cons,List.length_append];rw[rep] at ih;rw[ih,Nat.succ_mul];omega
theorem zpz (mk:V8)(n m:Nat):rep mk (n+m)=rep mk n++rep mk m:=by
 rw[rep,<-List.replicate_append_replicate,List.flatMap_append];rfl
variable {j n:Nat}
theorem z8e (mk:V8)(h:j<=n):(rep mk n).take (j*mk.length)=rep mk j:=by
 obtain⟨d,rfl⟩:=Nat.exists_eq_add_of_le h;rw[zpz,List.take_append_of_le_length (by rw[NZ];exact Nat.le_refl _),List.take_of_length_le (by rw[NZ];exact Nat.le_refl _)]
def Lm (w:W8)(base:Nat)(e:TypeId)(mk:V8)(v:Value)(n:Nat):Prop:=w.ownsRow base e mk.length v n (rep mk n)
variable {a:O8} {mk:V8} {e:TypeId} {base:Nat} {w:W8}
theorem Lm.pre {k cap:Nat}(h:Lm w base e mk (.slice a k cap) k)(hj:j<=k)(h0:0<k):Lm w base e mk (.slice a j cap) j:=by
 refine⟨NZ mk j,?_⟩;rcases h.2 with⟨_,h1⟩ | ⟨g,cp,cur,hv,hb,hg,hn,hc,hs,ht⟩
 ·omega
 ·injection hv with h1 h2 h3
  subst h1 h3;refine .inr ⟨g,cap,cur,rfl,hb,hg,by omega,hc,hs,?_⟩;rw[<-z8e mk hj,<-ht,List.take_take,Nat.min_eq_left (Nat.mul_le_mul_right _ hj)]
variable {v:Value} {w':W8}
theorem Lm.kept {B:List Nat}(h:Lm w base e mk v n)(k:zK B w w')(hB:∀ g,v.ownBlock=some g->g∉B):Lm w' base e mk v n:=
 zZ h (λ g hg=>k.block g (h.lt g hg).2 (hB g hg))
theorem Lm.cap {cap:Nat}(h:Lm w base e mk (.slice a n cap) n):n<=cap/\(a=none->cap=0):=by
 rcases h.2 with⟨hv,h1⟩ | ⟨g,cp,cur,hv,hb,hg,hn,hc,hs,ht⟩
 ·injection hv with h2 h3 h4;exact⟨by omega,λ _=>h4⟩
 ·injection hv with h2 h3 h4;exact⟨by omega,λ e=>by rw[e] at h2;cases h2⟩
variable {m:Nat} {v':Value}
theorem yc.kept (h:yc w w' v v' n m):zK v.ownBlock.toList w w':=by
 rcases h with⟨g,cap,rfl,_,_,hg⟩ | ⟨g,cap,_,_,hg,_⟩
 ·exact zK.aR hg
 ·exact (zK.aR hg).mono (by simp)
theorem yc.first {cap:Nat}(h:yc w w' (.slice a n cap) v' n m)(hm:0<m)(h1:Lm w base e mk (.slice a n cap) n)(h2:Lm w' base e mk v' (n+m)):Lm w' base e mk (.slice a n cap) n:=by
 rcases h with⟨g,cp,hv,rfl,hr,hg⟩ | ⟨g,cp,_,_,hg,_⟩
 ·injection hv with e1 e2 e3
  subst e1 e3;exact h2.pre (by omega) (by omega)
 ·exact h1.kept (zK.aR hg) (by simp)
theorem yc.other {w0 w1:W8}{cap:Nat}{v1:Value}{M:Nat}(h:yc w0 w1 (.slice a n cap) v1 n m)(hm:0<m)(h0:Lm w0 base e mk (.slice a n cap) n)(h1:Lm w base e mk v1 (n+m))(k:zK (Value.slice a n cap).ownBlock.toList w w')(hM:Lm w' base e mk (.slice a M cap) M)(nx:n+m<=M\/M=cap):Lm w' base e mk v1 (n+m):=by
 rcases h with⟨g,cp,hv,rfl,hr,hg⟩ | ⟨g,cp,rfl,qu,hg,_⟩
 ·injection hv with e1 e2 e3
  subst e1 e3;exact hM.pre (by omega) (by omega)
 ·refine h1.kept k (λ g' e' nw=>?_);have e2:g=g':=by simpa[Value.ownBlock] using e'
  have:=(h0.lt g' (by simpa using nw)).2;omega
theorem z1h (a:O8)(n c m d:Nat):(Value.slice a n c).ownBlock=(Value.slice a m d).ownBlock:=by cases a <;> rfl
structure uI (w2:W8)(base:Nat)(e:TypeId)(mk:V8)(a:O8)(n cap i:Nat)(v3:Value)(w:W8):Prop where
 lm:Lm w base e mk v3 (n+i)
 kept:zK (Value.slice a n cap).ownBlock.toList w2 w
 at_:v3=.slice a (n+i) cap\/((∀ g,v3.ownBlock=some g->w2.heap.size<=g)/\Lm w base e mk (.slice a cap cap) cap)
variable {i:Nat} {w2:W8}
theorem uI.one {a3:O8}{cap c3:Nat}{v4:Value}(h:uI w2 base e mk a n cap i (.slice a3 (n+i) c3) w)(h0:Lm w2 base e mk (.slice a n cap) n)(hp:yc w w' (.slice a3 (n+i) c3) v4 (n+i) 1)(h4:Lm w' base e mk v4 (n+i+1)):uI w2 base e mk a n cap (i+1) v4 w':=by
 have hk:=hp.kept;have bj:=h.kept.size;rcases h.at_ with he | ⟨FY,qq⟩
 ·injection he with e1 e2 e3
  subst e1 e3;rw[z1h _ _ _ n c3] at hk;refine⟨h4,h.kept.trans hk,?_⟩;rcases hp with⟨g,cp,hv,rfl,hr,hg⟩ | ⟨g,cp,rfl,qu,hg,hc⟩
  ·injection hv with e1 e2 e3
   subst e1 e3;exact .inl rfl
  ·right
   have nT:=h.lm.cap;have hcc:=hc _ _ rfl;have XH:c3=n+i:=(by omega);refine⟨λ g' e'=>?_,?_⟩
   ·have:g=g':=by simpa[Value.ownBlock] using e'
    omega
   ·have:=h.lm.kept (zK.aR hg) (by simp);rw[<-XH] at this;exact this
 ·have eI:∀ g,(Value.slice a cap cap).ownBlock=some g->g∉(Value.slice a3 (n+i) c3).ownBlock.toList:=λ g hg hm=>by
   have h1:=FY g (by simpa using hm);have h2:=(h0.lt g (by cases a with | none=>cases hg | some _=>exact hg)).2;omega
  refine⟨h4,h.kept.step hk (λ x hx=>.inr (FY x (by simpa using hx))) ,.inr ⟨λ g' e'=>?_,qq.kept hk eI⟩⟩;rcases hp with⟨g,cp,hv,rfl,hr,hg⟩ | ⟨g,cp,rfl,qu,hg,hc⟩
  ·exact FY g' (by rw[hv];exact e')
  ·have:g=g':=by simpa[Value.ownBlock] using e'
   omega
theorem uI.reach {cap:Nat}{v3:Value}(h:uI w2 base e mk a n cap i v3 w):∃ M,Lm w base e mk (.slice a M cap) M/\(n+i<=M\/M=cap):=by
 rcases h.at_ with he | ⟨_,hf⟩
 ·exact⟨n+i,by rw[<-he];exact h.lm,.inl L9⟩
 ·exact⟨cap,hf,.inr rfl⟩
end
section
open Go.RowKit
structure MB where
 l:Value
 one:Value
 two:Value
 three:Value
 mark:Nat
def MB.cells (m:MB):V8:=[m.l,m.one,m.two,m.three,.int .i64 (m.mark:Nat)]
def MB.blocks (m:MB):List Nat:=m.l.ownBlock.toList++m.one.ownBlock.toList++m.two.ownBlock.toList++m.three.ownBlock.toList
structure sr (w:W8)(e:TypeId)(mk:V8)(m:MB):Prop where
 eJ:m.mark<=1000000000
 each:∃ n,n<=1000/\Lm w 0 e mk m.l n/\Lm w 0 e mk m.one (n+1)/\Lm w 0 e mk m.two (n+2)/\Lm w 0 e mk m.three (n+64)
variable {n base:Nat} {v:Value} {mk:V8} {e:TypeId} {w:W8}
theorem Lm.Rl {g:Nat}(h:Lm w base e mk v n)(hg:v.ownBlock=some g):¬ dW w e g:=by
 intro hn;rcases h.2 with⟨hv,_⟩ | ⟨g',cp,cur,hv,_,mP,_⟩
 ·rw[hv] at hg;cases hg
 ·rw[hv] at hg;have:g'=g:=by simpa[Value.ownBlock] using hg
  subst this;exact hn _ _ mP
variable {w':W8} {B:List Nat}
theorem Lm.od (h:Lm w base e mk v n)(k:zK B w w')(hB:∀ x∈B,dW w e x\/x∉v.ownBlock.toList):Lm w' base e mk v n:=
 h.kept k λ g hg hm=>by
  rcases hB g hm with h1 | h1
  ·exact h.Rl hg h1
  ·exact h1 (by simpa using hg)
variable {m:MB}
theorem sr.kept (h:sr w e mk m)(k:zK B w w')(hB:∀ x∈B,dW w e x\/x∉m.blocks):sr w' e mk m:=by
 obtain⟨n,hn,h1,h2,h3,h4⟩:=h.each;have sub:∀ (v:Value),(∀ x∈v.ownBlock.toList,x∈m.blocks)->∀ x∈B,dW w e x\/x∉v.ownBlock.toList:=λ v hv x hx=>(hB x hx).imp id λ hn hm=>hn (hv x hm)
 refine⟨h.eJ,n,hn,h1.od k (sub _ ?_),h2.od k (sub _ ?_),h3.od k (sub _ ?_),h4.od k (sub _ ?_)⟩
 all_goals (intro x hx;simp only[MB.blocks,List.mem_append];simp[hx])
theorem sr.lt {w:W8}{e:TypeId}{mk:V8}{m:MB}(h:sr w e mk m):∀ g∈m.blocks,g<w.heap.size:=by
 obtain⟨n,hn,h1,h2,h3,h4⟩:=h.each;intro g hg;simp only[MB.blocks,List.mem_append] at hg;rcases hg with ((hg | hg) | hg) | hg
 ·exact (h1.lt g (by simpa using hg)).2
 ·exact (h2.lt g (by simpa using hg)).2
 ·exact (h3.lt g (by simpa using hg)).2
 ·exact (h4.lt g (by simpa using hg)).2
structure jS (w:W8)(base:Nat)(tB e:TypeId)(mk:Nat->V8)(v:Value)(ms:List MB):Prop where
 row:w.ownsRow base tB 5 v ms.length (ms.flatMap MB.cells)
 each:∀ m∈ms,sr w e (mk m.mark) m
theorem jS.nil (w:W8)(base:Nat)(tB e:TypeId)(mk:Nat->V8):jS w base tB e mk (.slice none 0 0) []:=⟨World.ownsRow_nil _ _ _ _,by simp⟩
theorem jS.kept {B:List Nat}{w w':W8}{base:Nat}{tB e:TypeId}{mk:Nat->V8}{v:Value}{ms:List MB}(h:jS w base tB e mk v ms)(k:zK B w w')(h1:∀ x∈B,x<base\/dW w tB x)(h2:∀ x∈B,dW w e x\/∀ m∈ms,x∉m.blocks):jS w' base tB e mk v ms:=
 ⟨xF h.row k h1,λ m hm=>(h.each m hm).kept k λ x hx=>(h2 x hx).imp id λ f=>f m hm⟩
variable {ms:List MB} {tB:TypeId}
theorem jS.below {mk:Nat->V8}(h:jS w base tB e mk v ms)(k:Below w.heap.size w w'):jS w' base tB e mk v ms:=
 h.kept (B:=[]) ((zK.refl [] w).ak k) (by simp) (by simp)
theorem jS.add {w2 w3:W8}{mk:Nat->V8}{v':Value}{b:Nat}(h:jS w2 base tB e mk v ms)(hm:sr w2 e (mk m.mark) m)(k:zK (b::v.ownBlock.toList) w2 w3)(ay:w3.ownsRow base tB 5 v' (ms.length+1) (ms.flatMap MB.cells++m.cells))(hb:dW w2 e b)(bF:tB≠e):jS w3 base tB e mk v' (ms++[m]):=by
 have hB:∀ x∈b::v.ownBlock.toList,dW w2 e x:=λ x hx=>by
  rcases List.mem_cons.1 hx with rfl | hx
  ·exact hb
  ·exact yH h.row bF x hx
 refine⟨?_,λ y hy=>?_⟩
 ·rw[List.length_append,List.flatMap_append];simpa using ay
 ·rcases List.mem_append.1 hy with hy | hy
  ·exact (h.each y hy).kept k λ x hx=>.inl (hB x hx)
  ·rw[List.mem_singleton.1 hy];exact hm.kept k λ x hx=>.inl (hB x hx)
end
section
open Go.RowKit
theorem z68:(Tryz.prog.info? 243).map (λ i=>(i.zero,i.size,i.bytes))=some (some (.agg #[.string { data:=#[] },.slice none 0 0,.bool false,.int .i64 0,.int .i64 0]),5,64):=by kernel_rfl
theorem zwf (w1:W8)(o:Obj)(A:zL)(tv:Value)(j:Nat)(u:Value)(h:(A.cells tv)[j]?=some u):((w1.alloc o).alloc (Obj.cells #[.string A.pred,tv,.bool A.no,.int IntKind.i64 ↑A.at_,.int IntKind.i64 ↑A.az] 243)).cell? ((⟨w1.heap.size+1,0,none⟩:Addr).add j)=some u:=by
 have e:(⟨w1.heap.size+1,0,none⟩:Addr).add j=⟨w1.heap.size+1,j,none⟩:=by unfold Addr.add;split <;> simp_all
 rw[e,World.cell?_alloc_at _ _ _ _ (by simp)];simpa[zL.cells] using h
theorem z29 (A:zL)(a:O8)(n c:Nat):∀ u∈A.cells (.slice a n c),u.oneCell'=true:=by
 intro u hu;simp[zL.cells] at hu;rcases hu with rfl | rfl | rfl | rfl | rfl <;> rfl
variable {X D E:List zL × Nat × Int} {c:Bool}
theorem zvu (h:X=if c then D else E)(hm:c=true):X=D:=by rw[hm] at h;simpa using h
theorem z1j (h:X=if c then D else E)(hm:c=false):X=E:=by rw[hm] at h;simpa using h
def zb3 (H:zL)(hv bv:Value):Value:=.agg #[.string H.pred,hv,.bool H.no,.int .i64 H.at_,.int .i64 H.az,bv]
theorem zw2 (s:B8)(pos:Nat)(bad:Int)(b:Nat)(w:W8)(h:dS w b s pos bad)(aJ:pos<=s.size)(hs:s.size<=maxLen):
  Calls Tryz.prog 125 #[.pointer (some ⟨b,0,none⟩)] w λ e w'=>∃ hv bs bv,e=.returned (zb3 (zI s pos bad) hv bv)/\zK [b] w w'/\dS w' b s (zb2 s pos bad) (jK s pos bad)/\zb2 s pos bad<=s.size/\nA w' w.heap.size ⟨zI s pos bad,(jM s pos bad).1⟩ hv bs bv:=by
 have h':=h;obtain⟨i0,hi,bL,aY,bg⟩:=info_parts z68;obtain⟨aH,c0,c1,c2,c3,c4,c5,fz⟩:=h;go_enter Tryz.func125,Tryz.ntmps125;go_wp2_with fail;refine (Mn s pos bad b _ (h'.kept ((zK.refl [] _).alloc _) (by simp)) aJ hs).mono ?_;rintro e w1 ⟨hv,rfl,aW,bI,rW,aN⟩;have td:=zzg aH aW bI rW (by simpa using aN);obtain⟨a0,cH,rfl⟩:=zD aN;clear c0 c1 c2 c3 c4 c5 fz h' bI aW aN;have iG:jM s pos bad=_:=jM.eq_1 s pos bad;have HB:=zC iG;clear iG;go_wp2_with fail;refine (zao s _ _ _ b _ td.bq td.hp hs).mono ?_;rintro e w2 ⟨rfl,bn,eZ⟩;have aP:=td.call bn eZ (vT rW);clear bn eZ td;generalize vF s (zH s pos bad).2.1 (zH s pos bad).2.2 { data:=#[58,45] }=p3 at *;generalize vO s (zH s pos bad).2.1 (zH s pos bad).2.2 { data:=#[58,45] }=b3 at *;generalize dZ s (zH s pos bad).2.1 (zH s pos bad).2.2 { data:=#[58,45] }=o3 at *;go_wp2_with fail
 go_loopg [4] 6 (λ g op wr=>∃ (bs:List (zL × Value)) (p:Nat) (bd:Int) (o:Bool) (bv:Value),op=.bool o/\(o=true->bs.length<=3)/\(if o then 6-bs.length else 0)<=g/\BO w b w1.heap.size s (zI s pos bad) (.slice a0 (zH s pos bad).fst.length cH) bs p bd bv wr/\jM s pos bad=(if o then zco s (4-(bs.map (·.1)).length) p bd (bs.map (·.1)) else (bs.map (·.1),p,bd)))
 exact⟨[],p3,b3,o3,_,rfl,by simp,by split <;> simp,aP,zA HB⟩
 case round=>
  clear HB aP;obtain⟨bs,p,bd,o,bv,rfl,mf,hg,hinv,aE⟩:=hrel;have HF:=zC aE;clear aE;obtain⟨a1,ei,rfl⟩:=zD hinv.own;have bt:=hinv.hp;have bj:=hinv.sz
  cases o with
  | false=>
   clear mf;have hF:jM s pos bad=(bs.map (·.1),p,bd):=zA HF;have Og:=zC hF;clear hF HF;go_wp2_with fail;refine (za8 s _ _ _ b _ hinv.bq bt hs).mono ?_;rintro e w9 ⟨rfl,T0,Ue⟩;have Ai:=hinv.call T0 Ue (zR _ _ _ bt);obtain⟨x0,x1,x2,x3,x4,x5,xf⟩:=Ai.rc;obtain⟨y0,y1,y2,y3,y4,y5,yf⟩:=Ai.zc;clear T0 Ue hinv;go_wp2_with fail;obtain⟨q0,q1,q2,q3,q4,q5⟩:=yeu y0 y1 y2 y3 y4 y5 (.string (zI s pos bad).pred) (.slice a0 (zH s pos bad).fst.length cH) (.bool (zI s pos bad).no) (.int .i64 (zI s pos bad).at_) (.int .i64 (zI s pos bad).az) (.slice a1 bs.length ei);have mN:=Ai.ends (yef w9 w.heap.size (.string (zI s pos bad).pred) (.slice a0 (zH s pos bad).fst.length cH) (.bool (zI s pos bad).no) (.int .i64 (zI s pos bad).at_) (.int .i64 (zI s pos bad).az) (.slice a1 bs.length ei));have eP:zb2 s pos bad=zW s p (xM s p bd { data:=#[46] }):=(by rw[zb2,zA Og]);have eB:jK s pos bad=zU s p (xM s p bd { data:=#[46] }):=(by rw[jK,zA Og]);have eF:(jM s pos bad).1=bs.map (·.1):=(by rw[zA Og]);refine bodyPost_ret (v:=zb3 (zI s pos bad) (.slice a0 (zH s pos bad).fst.length cH) (.slice a1 bs.length ei)) (by simp[results,Tryz.results125,go_sem,zb3,q0,q1,q2,q3,q4,q5]) rfl ⟨_,bs,_,rfl,?_⟩;rw[eP,eB,eF];exact mN
  | true=>
   have Gc:bs.length<=3:=mf rfl;clear mf;have aP:=zxv s p bd (bs.map (·.1)) (by simpa using Gc);have oE:=(show jM s pos bad=zco s (4-(bs.map (·.1)).length) p bd (bs.map (·.1)) from zA HF).trans aP;rw[List.length_map] at oE;have aC:=zC oE;clear HF aP oE;have Qe:(bs.length:Int)<=3:=(by omega);obtain⟨x0,x1,x2,x3,x4,x5,xf⟩:=hinv.rc
   by_cases t3:bs.length=3
   ·have tb:zX s p bd bs.length=zaw s p bd:=(by simp[zX,t3]);have Zn:((bs.length:Int)==3)=true:=(by simp;omega);have TB:=zC tb;clear tb t3;go_wp2_with fail;refine (za0 s p bd b _ hinv.bq).mono ?_;rintro e w0 ⟨rfl,iA,dV⟩;rw[<-zA TB] at dV;have aM:=hinv.call iA dV bt;have bj:=aM.sz;clear iA dV x0 x1 x2 x3 x4 x5 xf;go_wp2_with fail;refine (z27 s p (zX s p bd bs.length) b _ aM.bq bt hs).mono ?_;rintro e w3 ⟨tv,rfl,eE,sW,mf,mU⟩;obtain⟨a3,CL,rfl⟩:=zD mU;have bf:=aM.call eE sW mf;obtain⟨d0,d1,d2,d3,d4,d5,lg⟩:=bf.rc;have bH:=bf.own;have aK:w1.heap.size<w3.heap.size:=(by have:=bf.sz;omega);clear eE sW aM;unfold zL.val;go_wp2_with (at_builtin;refine wpList_append_own _ rfl _ _ 244 rfl (w1.heap.size+1) 243 i0 _ 5 64 Tryz.underlying244 hi bL aY bg rfl (by decide) _ _ _ rfl ((bH.alloc _).alloc _) ⟨w3.heap.size+1,0,none⟩ 1 1 ((vB s p (zX s p bd bs.length)).cells (.slice a3 (vB s p (zX s p bd bs.length)).ae.length CL)) rfl rfl (zwf w3 _ _ _) (z29 _ _ _ _) (by unfold maxLen;omega) (by omega) (by simp;omega) ?_);intro v5 w5 aq aU hne5;clear hne5;obtain⟨a5,eH,rfl⟩:=zD aq;obtain⟨aI,e0,e1,e2,e3,e4,e5,mI⟩:=bf.append (zG mU bj) aq aU;have dC:w1.heap.size<w5.heap.size:=(by have:=aI.sz;simp at this;omega);clear aq aU d0 d1 d2 d3 d4 d5 lg bH bf mU;go_wp2_with fail;refine (zao s _ _ _ b _ aI.bq mf hs).mono ?_;rintro e w7 ⟨rfl,dR,ic⟩;have aD:=aI.call dR ic (vT mf);clear dR ic aI e0 e1 e2 e3 e4 e5 mI dC
    cases hm:dZ s (yE s p (zX s p bd bs.length)).1 (yE s p (zX s p bd bs.length)).2 { data:=#[44] } with
    | true=>
     have bh:=zwg Gc hm;have aO:=zC (zvu (zA aC) hm);clear hm aC;go_wp2_with fail;go_roundg (6-(bs.length+1));exact⟨_,_,_,true,_,rfl,λ _=>by simp;omega,by simp,aD,by rw[List.map_append];exact zA aO⟩;simp at hg ⊢;omega
    | false=>
     have aO:=zC (z1j (zA aC) hm);clear hm aC;go_wp2_with fail;go_roundg 0;exact⟨_,_,_,false,_,rfl,by simp,by simp,aD,by rw[List.map_append];exact zA aO⟩;simp at hg ⊢;omega
   ·have tb:zX s p bd bs.length=bd:=(by simp[zX,t3]);have Zn:((bs.length:Int)==3)=false:=(by simp;omega);have TB:=zC tb;clear tb t3;go_wp2_with fail;have aM:BO w b w1.heap.size s (zI s pos bad) (.slice a0 (zH s pos bad).fst.length cH) bs p (zX s p bd bs.length) (.slice a1 bs.length ei) wr:=(by rw[zA TB];exact hinv);clear x0 x1 x2 x3 x4 x5 xf;refine (z27 s p (zX s p bd bs.length) b _ aM.bq bt hs).mono ?_;rintro e w3 ⟨tv,rfl,eE,sW,mf,mU⟩;obtain⟨a3,CL,rfl⟩:=zD mU;have bf:=aM.call eE sW mf;obtain⟨d0,d1,d2,d3,d4,d5,lg⟩:=bf.rc;have bH:=bf.own;have aK:w1.heap.size<w3.heap.size:=(by have:=bf.sz;omega);clear eE sW aM;unfold zL.val;go_wp2_with (at_builtin;refine wpList_append_own _ rfl _ _ 244 rfl (w1.heap.size+1) 243 i0 _ 5 64 Tryz.underlying244 hi bL aY bg rfl (by decide) _ _ _ rfl ((bH.alloc _).alloc _) ⟨w3.heap.size+1,0,none⟩ 1 1 ((vB s p (zX s p bd bs.length)).cells (.slice a3 (vB s p (zX s p bd bs.length)).ae.length CL)) rfl rfl (zwf w3 _ _ _) (z29 _ _ _ _) (by unfold maxLen;omega) (by omega) (by simp;omega) ?_);intro v5 w5 aq aU hne5;clear hne5;obtain⟨a5,eH,rfl⟩:=zD aq;obtain⟨aI,e0,e1,e2,e3,e4,e5,mI⟩:=bf.append (zG mU bj) aq aU;have dC:w1.heap.size<w5.heap.size:=(by have:=aI.sz;simp at this;omega);clear aq aU d0 d1 d2 d3 d4 d5 lg bH bf mU;go_wp2_with fail;refine (zao s _ _ _ b _ aI.bq mf hs).mono ?_;rintro e w7 ⟨rfl,dR,ic⟩;have aD:=aI.call dR ic (vT mf);clear dR ic aI e0 e1 e2 e3 e4 e5 mI dC
    cases hm:dZ s (yE s p (zX s p bd bs.length)).1 (yE s p (zX s p bd bs.length)).2 { data:=#[44] } with
    | true=>
     have bh:=zwg Gc hm;have aO:=zC (zvu (zA aC) hm);clear hm aC;go_wp2_with fail;go_roundg (6-(bs.length+1));exact⟨_,_,_,true,_,rfl,λ _=>by simp;omega,by simp,aD,by rw[List.map_append];exact zA aO⟩;simp at hg ⊢;omega
    | false=>
     have aO:=zC (z1j (zA aC) hm);clear hm aC;go_wp2_with fail;go_roundg 0;exact⟨_,_,_,false,_,rfl,by simp,by simp,aD,by rw[List.map_append];exact zA aO⟩;simp at hg ⊢;omega
end
end Go.Proofs.YtldkpahaocjdpaaGreat
