/-
  The program's reader: atom, with terms in brackets.
-/
import Derived.Test.YtldkpahaocjdpaaGreatD08
set_option maxHeartbeats 16000000
set_option maxRecDepth 1000000
namespace Go.Proofs.YtldkpahaocjdpaaGreat
section
open Go.RowKit
theorem z2l (w:W8)(b:Nat)(s:B8)(pos num:Nat)(mv:Value)(neg:Bool)(start:Nat)(ms:List (yU × Value))(h:dN w b s pos num mv)(eX:aC w (b+1) mv ms)(bn:pos<=s.size)(hs:s.size<=2000000)(hk:(zD s pos).1=2)(jq:(zD s (zD s pos).2.2).1=5)(ub:(zR s 4 (zD s (zD s pos).2.2).2.2 [] (λ _=>0)).1=false):
  Calls Tryz.prog 98 #[.pointer (some ⟨b,0,none⟩),.bool neg,.int .i64 start] w λ e w'=>e=.returned (.tuple #[.agg #[.string { data:=#[] },.slice none 0 0],.bool false])/\yC [b] w w'/\dN w' b s (zR s 4 (zD s (zD s pos).2.2).2.2 [] (λ _=>0)).2.1 num mv:=by
 have dQ:s.size<=maxLen:=by unfold maxLen;omega
 have cN:((zD s pos).1==2)=true:=by rw[hk];rfl
 have o7:((zD s (zD s pos).2.2).1==5)=true:=by rw[jq];rfl
 have ht:yB s pos 2=(zD s pos).2.2:=by unfold yB;rw[if_pos cN]
 have sO:yB s (zD s pos).2.2 5=(zD s (zD s pos).2.2).2.2:=by unfold yB;rw[if_pos o7]
 have HT:=zC ht;have tP:=zC sO;have gG:=(xD s pos bn).2;have nG:=(xD s (zD s pos).2.2 gG).2;have h0:=dD.start neg start h bn;obtain⟨am,gA,rfl⟩:=zE eX.row;obtain⟨bP,c0,c1,c2,c3,c4,c5,fz⟩:=h;clear hk ht sO jq;go_enter Tryz.func98,Tryz.ntmps98;go_wp2_with fail
 go_region
 clear c0 c1 c2 c3 c4 c5 fz;go_wp2_with fail;refine (zeb s pos num _ b _ h0.dg bn hs).mono ?_;rintro e w2 ⟨rfl,aU⟩;have h2:=h0.same aU;have d2:=h2.mc.c2;have df:=h2.mc.fz 2;have h3:=h2.pred (yT s pos);have HI:=zC h3;clear h0 aU h2 h3;go_wp2_with fail;refine (yQ s pos num _ 2 b _ (zA HI).dg bn dQ).mono ?_;rintro e w4 ⟨rfl,bz,eY⟩;rw[zA HT] at eY;have h5:=(zA HI).call bz eY gG;clear HI bz eY d2 df;go_wp2_with fail;refine (yQ s (zD s pos).2.2 num _ 5 b _ h5.dg gG dQ).mono ?_;rintro e w6 ⟨rfl,kH,mL⟩;rw[zA tP] at mL;have h7:=h5.call kH mL nG;clear h5 kH mL;have yi:b≠w.heap.size+1:=by have:=h7.bw;omega
 go_wp2_with fail;refine (zsy w6 b (w.heap.size+1) s _ num _ num neg _ start (zD s pos).2.1 _ h7.dg h7.mc yi nG hs).mono ?_;rintro e w8 ⟨rfl,tv,hT⟩;generalize Am:zR s 4 (zD s (zD s pos).2.2).2.2 [] (λ _=>0)=PP at *;obtain⟨ok,p3,ts,pl⟩:=PP;simp only at hT;obtain⟨ag,bT,rfl⟩:=zE hT.own;have Dp:w.heap.size+1<w6.heap.size:=h7.mc.lt;have h8:dD w b s num (.slice am ms.length gA) neg start (zD s pos).2.1 (yT s pos) (.slice ag ts.length bT) pl p3 w8:=by
  refine⟨hT.dg,hT.hp,hT.mc,h7.ra.kept hT.kept (by simp;have:=h7.bw;omega),?_,h7.bw⟩;have k1:yC [b,w.heap.size+1] w w6:=h7.kept.mono (by simp);exact (k1.trans hT.kept).mono (by simp)
 have uU:w8.ownsRow w.heap.size 191 1 (.slice ag ts.length bT) ts.length (yP ts):=zI hT.own (by omega);have Ag:=zC (λ g (e:(Value.slice ag ts.length bT).ownBlock=some g)=>(hT.own.lt g e).1);clear hT h7;have bX:ok=false:=ub;subst bX;obtain⟨Mc,Md,Me,Mf⟩:=h8.ra;clear uU Ag;go_wp2_with fail;obtain⟨q0,q1⟩:=ydt h8.ra (.string { data:=#[] }) (.slice none 0 0);refine bodyPost_ret (v:=.tuple #[.agg #[.string { data:=#[] },.slice none 0 0],.bool false]) (by simp[results,Tryz.results98,go_sem,q0,q1]) rfl ⟨rfl,?_,?_⟩
 ·exact (h8.kept.setCell (.inr L9) _).setCell (.inr L9) _
 ·rw[Am];exact h8.dg.kept (za8 w8 w.heap.size (.string { data:=#[] }) (.slice none 0 0)) (by simp;omega)
end
section
open Go.RowKit
def z40 (w:W8)(b:Nat)(s:B8)(num:Nat)(mv:Value)(neg:Bool)(start place:Nat)(ms:List (yU × Value))(r:ydp)(e:Ending)(w':W8):Prop:=
 match r with
 | .no p=>e=.returned (.tuple #[.agg #[.string { data:=#[] },.slice none 0 0],.bool false])/\yC [b] w w'/\dN w' b s p num mv
 | .yes p pd ts pl=>∃ tv gm,e=.returned (.tuple #[.agg #[.string pd,tv],.bool true])/\yC (b::mv.ownBlock.toList) w w'/\dN w' b s p num gm/\aC w' (b+1) gm (ms++[(⟨num,neg,pd,ts,start,place,pl⟩,tv)])/\w'.ownsRow w.heap.size 191 1 tv ts.length (yP ts)/\(∀ k,gm.ownBlock=some k->mv.ownBlock=some k\/w.heap.size<=k)
theorem zlr (w:W8)(b:Nat)(s:B8)(pos num:Nat)(mv:Value)(neg:Bool)(start:Nat)(ms:List (yU × Value))(h:dN w b s pos num mv)(eX:aC w (b+1) mv ms)(ed:ms.length<=1000)(bn:pos<=s.size)(hs:s.size<=2000000):
  Calls Tryz.prog 98 #[.pointer (some ⟨b,0,none⟩),.bool neg,.int .i64 start] w (z40 w b s num mv neg start (zD s pos).2.1 ms (yV s pos)):=by
 by_cases hk:(zD s pos).1=2
 ·by_cases jq:(zD s (zD s pos).2.2).1=5
  ·cases hP:(zR s 4 (zD s (zD s pos).2.2).2.2 [] (λ _=>0)).1 with
   | false=>
    have e:yV s pos=.no (zR s 4 (zD s (zD s pos).2.2).2.2 [] (λ _=>0)).2.1:=(by unfold yV;rw[if_pos hk,if_pos jq,if_neg (by rw[hP];decide)]);rw[e];exact z2l w b s pos num mv neg start ms h eX bn hs hk jq hP
   | true=>
    have e:yV s pos=.yes (zR s 4 (zD s (zD s pos).2.2).2.2 [] (λ _=>0)).2.1 (yT s pos) (zR s 4 (zD s (zD s pos).2.2).2.2 [] (λ _=>0)).2.2.1 (zR s 4 (zD s (zD s pos).2.2).2.2 [] (λ _=>0)).2.2.2:=(by unfold yV;rw[if_pos hk,if_pos jq,if_pos hP]);rw[e];exact z2m w b s pos num mv neg start ms h eX ed bn hs hk jq hP
  ·have e:yV s pos=.yes (zD s pos).2.2 (yT s pos) [] (λ _=>0):=(by unfold yV;rw[if_pos hk,if_neg jq]);rw[e];exact zyh w b s pos num mv neg start ms h eX ed bn hs hk jq
 ·have e:yV s pos=.no pos:=by unfold yV;rw[if_neg hk]
  rw[e];exact z65 w b s pos num mv neg start h bn hs hk
end
section
open Go.RowKit
variable {fr:Nat × Nat} {cur:Array Value} {n0 n base:Nat} {e0:TypeId} {w:W8}
theorem zl1 {e:TypeId}{size:Nat}{v:Value}{xs:V8}(h:w.ownsRow base e size v n xs)(hb:w.heap[n0]?=some (.cells cur e0 fr))(bG:e≠e0):∀ g,v.ownBlock=some g->g≠n0:=by
 intro g hg hgn;subst hgn;rcases h.2 with⟨rfl,_⟩ | ⟨g',cap,BW,rfl,_,dn,_⟩
 ·cases hg
 ·injection hg with hg
  simp only at hg;subst hg;rw[hb] at dn;injection dn with dn
  injection dn with _ dn _
  exact bG dn.symm
theorem z14 {w':W8}{mv:Value}{ms:List (yU × Value)}(h:aC w base mv ms)(hb:w.heap[n0]?=some (.cells cur e0 fr))(h1:221≠e0)(h2:191≠e0)(k:yC [n0] w w'):aC w' base mv ms:=
 zt4 h k (zl1 h.row hb h1) (λ x hx=>zl1 (h.each x hx) hb h2)
def z9s (w:W8)(b:Nat)(s:B8)(num:Nat)(mv:Value)(neg:Bool)(start place:Nat)(ms:List (yU × Value))(r:ydp)(e:Ending)(w':W8):Prop:=
 match r with
 | .no p=>e=.returned (.tuple #[.agg #[.bool neg,.string { data:=#[] },.slice none 0 0],.bool false])/\yC [b] w w'/\dN w' b s p num mv
 | .yes p pd ts pl=>∃ tv gm,e=.returned (.tuple #[.agg #[.bool neg,.string pd,tv],.bool true])/\yC (b::mv.ownBlock.toList) w w'/\dN w' b s p num gm/\aC w' (b+1) gm (ms++[(⟨num,neg,pd,ts,start,place,pl⟩,tv)])/\w'.ownsRow w.heap.size 191 1 tv ts.length (yP ts)/\(∀ k,gm.ownBlock=some k->mv.ownBlock=some k\/w.heap.size<=k)
theorem zB {c:Array Value}{t:TypeId}(h:w.heap[n]?=some (.cells c t (0,0)))(j:Nat):w.cell? ⟨n,j,none⟩=c[j]?/\w.frozen? ⟨n,j,none⟩=false:=by
 unfold World.cell? World.frozen?;simp[h]
theorem zx3 (w1:W8)(n:Nat)(v0 v1 v2:Value):yC [n] w1 (((w1.setCell ⟨n,0,none⟩ v0).setCell ⟨n,1,none⟩ v1).setCell ⟨n,2,none⟩ v2):=
 (((yC.refl [n] w1).setCell (by simp) _).setCell (by simp) _).setCell (by simp) _
theorem yC.Mb {B:List Nat}{w1 w2:W8}(h:yC B w w1)(k:yC [w.heap.size] w1 w2):yC B w w2:=
 ⟨k.os.trans h.os,k.tape.trans h.tape,k.output.trans h.output,Nat.le_trans h.size k.size,λ i hi hn=>(k.block i (Nat.lt_of_lt_of_le hi h.size) (by simp;omega)).trans (h.block i hi hn)⟩
theorem z7b (w:W8)(b:Nat)(s:B8)(pos num:Nat)(mv:Value)(ms:List (yU × Value))(h:dN w b s pos num mv)(eX:aC w (b+1) mv ms)(ed:ms.length<=1000)(bn:pos<=s.size)(hs:s.size<=2000000):
  Calls Tryz.prog 175 #[.pointer (some ⟨b,0,none⟩)] w (z9s w b s num mv ((zD s pos).1==4) (zD s pos).2.1 (zD s (yB s pos 4)).2.1 ms (yV s (yB s pos 4))):=by
 have dQ:s.size<=maxLen:=by unfold maxLen;omega
 have h0:=h.kept ((yC.refl [] w).alloc (.cells #[.bool false,.string { data:=#[] },.slice none 0 0] 183)) (by simp);have fR:=eX.kept ((yC.refl [] w).alloc (.cells #[.bool false,.string { data:=#[] },.slice none 0 0] 183)) (by simp);have gG:yB s pos 4<=s.size:=by unfold yB;split;exact (xD s pos bn).2;exact bn
 have nV:=zC (λ k (e:mv.ownBlock=some k)=>(eX.row.lt k e).2);obtain⟨bP,c0,c1,c2,c3,c4,c5,fz⟩:=h;have aL:(w.alloc (.cells #[.bool false,.string { data:=#[] },.slice none 0 0] 183)).heap[w.heap.size]?=some (.cells #[.bool false,.string { data:=#[] },.slice none 0 0] 183 (0,0)):=heap_alloc_new w _;have eS:=zC aL;clear aL;go_enter Tryz.func175,Tryz.ntmps175;go_wp2_with fail;refine (yQ s pos num mv 4 b _ h0 bn dQ).mono ?_;rintro e w1 ⟨rfl,de,ez⟩;have uI:=fR.kept de (by simp);clear c0 c1 c2 c3 c4 c5 fz h0 fR;go_wp2_with fail;refine (zlr w1 b s (yB s pos 4) num mv _ _ ms ez uI ed gG hs).mono ?_;intro e w2 hpost
 cases hr:yV s (yB s pos 4) with
 | no p=>
  rw[hr] at hpost;obtain⟨rfl,cN,fc⟩:=hpost;have kg:=de.trans cN;have aU:=(kg.block w.heap.size (by simp) (by simp;omega)).trans (zA eS);obtain⟨a0,f0⟩:=zB aU 0;obtain⟨a1,f1⟩:=zB aU 1;obtain⟨a2,f2⟩:=zB aU 2;have lI:w.heap.size<w2.heap.size:=by have:=kg.size;simp at this;omega
  have HR:=zC hr;clear hr de ez uI cN;go_wp2_with fail;obtain⟨q0,q1,q2⟩:=yca a0 a1 a2 (.bool ((zD s pos).1==4)) (.string { data:=#[] }) (.slice none 0 0);have q0:=zpv q0;have q1:=zpv q1;have q2:=zpv q2;have k3:=(zx3 w2 w.heap.size (.bool ((zD s pos).1==4)) (.string { data:=#[] }) (.slice none 0 0)).alloc (Obj.cells #[.string { data:=#[] },.slice none 0 0] 79);refine bodyPost_ret (v:=.tuple #[.agg #[.bool ((zD s pos).1==4),.string { data:=#[] },.slice none 0 0],.bool false]) (by simp[results,Tryz.results175,go_sem,q0,q1,q2]) rfl ?_;rw[zA HR];exact⟨rfl,(((yC.refl [b] w).alloc _).trans kg).Mb k3,fc.kept k3 (by simp;omega)⟩
 | yes p pd ts pl=>
  rw[hr] at hpost;obtain⟨tv,gm,rfl,cN,fc,eG,gK,kj⟩:=hpost;obtain⟨ag,bT,rfl⟩:=zE gK;have kg:=(de.mono (C:=b::mv.ownBlock.toList) (by simp)).trans cN
  have aU:=(kg.block w.heap.size (by simp) (by
   intro hm;rcases List.mem_cons.1 hm with hm | hm
   ·omega
   ·have:=zA nV w.heap.size (by simpa using hm);omega)).trans (zA eS)
  obtain⟨a0,f0⟩:=zB aU 0;obtain⟨a1,f1⟩:=zB aU 1;obtain⟨a2,f2⟩:=zB aU 2;have lI:w.heap.size<w2.heap.size:=by have:=kg.size;simp at this;omega
  have bq:w.heap.size<=w1.heap.size:=by have:=de.size;simp at this;omega
  have HR:=zC hr;have ep:=zC aU;have Ey:=zC kj;clear hr de ez uI cN aU kj;go_wp2_with fail;obtain⟨q0,q1,q2⟩:=yca a0 a1 a2 (.bool ((zD s pos).1==4)) (.string pd) (.slice ag ts.length bT);have q0:=zpv q0;have q1:=zpv q1;have q2:=zpv q2;have k3:=(zx3 w2 w.heap.size (.bool ((zD s pos).1==4)) (.string pd) (.slice ag ts.length bT)).alloc (Obj.cells #[.string pd,.slice ag ts.length bT] 79);refine bodyPost_ret (v:=.tuple #[.agg #[.bool ((zD s pos).1==4),.string pd,.slice ag ts.length bT],.bool true]) (by simp[results,Tryz.results175,go_sem,q0,q1,q2]) rfl ?_;rw[zA HR];exact⟨_,_,rfl,(((yC.refl _ w).alloc _).trans kg).Mb k3,fc.kept k3 (by simp;omega),z14 eG (zA ep) (by decide) (by decide) k3,zI (jL gK k3 (zl1 gK (zA ep) (by decide))) bq,λ k e=>by rcases zA Ey k e with h1 | h1;exact .inl h1;exact .inr (Nat.le_trans bq h1)⟩
end
section
open Go.RowKit
structure yX where
 neg:Bool
 pd:B8
 ts:List (Bool × B8)
def yX.cells (L:yX)(tv:Value):V8:=[.bool L.neg,.string L.pd,tv]
def zlt (ls:List (yX × Value)):V8:=ls.flatMap λ x=>x.1.cells x.2
theorem zr5 (l:List (yX × Value))(A:yX)(tv:Value):zlt (l++[(A,tv)])=zlt l++A.cells tv:=by simp[zlt]
structure aK (w:W8)(base:Nat)(bv:Value)(ls:List (yX × Value)):Prop where
 row:w.ownsRow base 183 3 bv ls.length (zlt ls)
 each:∀ x∈ls,w.ownsRow base 191 1 x.2 x.1.ts.length (yP x.1.ts)
def dM (s:B8)(p:Nat)(pd:B8)(ts:List (Bool × B8)):yX:=⟨(zD s p).1==4,pd,ts⟩
def dO (s:B8)(num p:Nat)(pd:B8)(ts:List (Bool × B8))(pl:Nat->Nat):yU:=⟨num,(zD s p).1==4,pd,ts,(zD s p).2.1,(zD s (yB s p 4)).2.1,pl⟩
def vB (s:B8)(num:Nat):Nat->Nat->List yX->List yU->Bool × Nat × List yX × List yU
 | 0,p,l,ms=>(false,p,l,ms)
 | f+1,p,l,ms=>
  match yV s (yB s p 4) with
  | .no q=>(false,q,l,ms)
  | .yes q pd ts pl=>
   if (zD s q).1=7 then vB s num f (zD s q).2.2 (l++[dM s p pd ts]) (ms++[dO s num p pd ts pl])
   else (decide ((zD s q).1=8),yB s q 8,l++[dM s p pd ts],ms++[dO s num p pd ts pl])
structure yG where
 pd:B8
 ts:List (Bool × B8)
 body:List yX
def dc (s:B8)(num p:Nat)(pd:B8)(ts:List (Bool × B8))(pl:Nat->Nat):yU:=⟨num,false,pd,ts,(zD s p).2.1,(zD s p).2.1,pl⟩
def xG (s:B8)(num p:Nat)(ms:List yU):Bool × Nat × yG × List yU:=
 match yV s p with
 | .no q=>(false,q,⟨{ data:=#[] },[],[]⟩,ms)
 | .yes q pd ts pl=>
  if (zD s q).1=8 then (true,(zD s q).2.2,⟨pd,ts,[]⟩,ms++[dc s num p pd ts pl])
  else if (zD s q).1=9 then
   ((vB s num 3 (zD s q).2.2 [] (ms++[dc s num p pd ts pl])).1,(vB s num 3 (zD s q).2.2 [] (ms++[dc s num p pd ts pl])).2.1,⟨pd,ts,(vB s num 3 (zD s q).2.2 [] (ms++[dc s num p pd ts pl])).2.2.1⟩,(vB s num 3 (zD s q).2.2 [] (ms++[dc s num p pd ts pl])).2.2.2)
  else (false,q,⟨pd,ts,[]⟩,ms++[dc s num p pd ts pl])
def vG (s:B8):Nat->Nat->List yG->List yU->Bool × Nat × List yG × List yU
 | 0,p,rs,ms=>(false,p,rs,ms)
 | f+1,p,rs,ms=>
  if (zD s p).1=0 then (true,p,rs,ms)
  else if rs.length=30 then (false,p,rs,ms)
  else if (xG s rs.length p ms).1 then vG s f (xG s rs.length p ms).2.1 (rs++[(xG s rs.length p ms).2.2.1]) (xG s rs.length p ms).2.2.2
  else (false,(xG s rs.length p ms).2.1,rs,(xG s rs.length p ms).2.2.2)
variable {xs:V8} {n size base:Nat} {v:Value} {e:TypeId} {w w':W8}
theorem zP (h:w.ownsRow base e size v n xs)(hb:∀ g,v.ownBlock=some g->w'.heap[g]?=w.heap[g]?):w'.ownsRow base e size v n xs:=by
 refine⟨h.1,?_⟩;rcases h.2 with hn | ⟨g,cap,cur,rfl,Ap,dn,rest⟩
 ·exact .inl hn
 ·exact .inr ⟨g,cap,cur,rfl,Ap,(hb g rfl).trans dn,rest⟩
def aY (w:W8)(e:TypeId)(x:Nat):Prop:=∀ c fr,w.heap[x]?≠some (.cells c e fr)
theorem vH {e0:TypeId}(h:w.ownsRow base e0 size v n xs)(bG:e0≠e):∀ x∈v.ownBlock.toList,aY w e x:=by
 intro x hx c fr he;have uZ:v.ownBlock=some x:=by simpa using hx
 rcases h.2 with⟨rfl,_⟩ | ⟨g,cap,cur,rfl,_,dn,_⟩
 ·cases uZ
 ·injection uZ with uZ
  simp only at uZ;subst uZ;rw[he] at dn;injection dn with dn
  injection dn with _ dn _
  exact bG dn.symm
variable {B:List Nat}
theorem vR (h:w.ownsRow base e size v n xs)(k:yC B w w')(hB:∀ x∈B,x<base\/aY w e x):w'.ownsRow base e size v n xs:=by
 refine⟨h.1,?_⟩;rcases h.2 with hn | ⟨g,cap,cur,rfl,Ap,dn,rest⟩
 ·exact .inl hn
 ·refine .inr ⟨g,cap,cur,rfl,Ap,?_,rest⟩
  rw[k.block g (Array.getElem?_eq_some_iff.1 dn).1 (λ hm=>by
   rcases hB g hm with h1 | h1
   ·omega
   ·exact h1 _ _ dn)]
  exact dn
theorem yC.step {C:List Nat}{a:W8}(h:yC B a w)(k:yC C w w')(hC:∀ x∈C,x∈B\/a.heap.size<=x):yC B a w':=
 ⟨k.os.trans h.os,k.tape.trans h.tape,k.output.trans h.output,Nat.le_trans h.size k.size,λ i hi hn=>(k.block i (Nat.lt_of_lt_of_le hi h.size) (λ hm=>by
  rcases hC i hm with h1 | h1
  ·exact hn h1
  ·omega)).trans (h.block i hi hn)⟩
variable {ls:List (yX × Value)} {bv:Value}
theorem aK.cZ (h:aK w base bv ls)(k:yC B w w')(hB:∀ x∈B,x<base\/(aY w 183 x/\aY w 191 x)):aK w' base bv ls:=
 ⟨vR h.row k (λ x hx=>(hB x hx).imp id And.left),λ y hy=>vR (h.each y hy) k (λ x hx=>(hB x hx).imp id And.right)⟩
theorem aK.low {base':Nat}(h:aK w base bv ls)(hb:base'<=base):aK w base' bv ls:=
 ⟨zI h.row hb,λ y hy=>zI (h.each y hy) hb⟩
variable {ms:List (yU × Value)} {mv:Value}
theorem aC.cZ (h:aC w base mv ms)(k:yC B w w')(hB:∀ x∈B,x<base\/(aY w 221 x/\aY w 191 x)):aC w' base mv ms:=
 ⟨vR h.row k (λ x hx=>(hB x hx).imp id And.left),λ y hy=>vR (h.each y hy) k (λ x hx=>(hB x hx).imp id And.right)⟩
structure fp (w:W8)(b:Nat)(s:B8)(num:Nat)(mv:Value)(ls:List (yX × Value))(p:Nat)(ms:List (yU × Value))(eU bv:Value)(wr:W8):Prop where
 dg:dN wr b s p num eU
 hp:p<=s.size
 eh:aC wr (b+1) eU ms
 lits:aK wr w.heap.size bv ls
 kept:yC (b::mv.ownBlock.toList) w wr
 at_:∀ k,eU.ownBlock=some k->mv.ownBlock=some k\/w.heap.size<=k
 bw:b<w.heap.size
variable {p' p num b:Nat} {wr w1:W8} {eU:Value} {s:B8}
theorem fp.take (h:fp w b s num mv ls p ms eU bv wr)(k:yC [b] wr w1)(hr:dN w1 b s p' num eU)(hp:p'<=s.size):fp w b s num mv ls p' ms eU bv w1:=
 have h2:=h.bw
 ⟨hr,hp,h.eh.kept k (by simp),h.lits.cZ k (by simp;omega),h.kept.step k (by simp),h.at_,h.bw⟩
theorem fp.lit {u9:Value}{ms':List (yU × Value)}(h:fp w b s num mv ls p ms eU bv wr)(k:yC (b::eU.ownBlock.toList) wr w1)(hr:dN w1 b s p' num u9)(hp:p'<=s.size)(hm:aC w1 (b+1) u9 ms')(gT:∀ k,u9.ownBlock=some k->eU.ownBlock=some k\/wr.heap.size<=k):fp w b s num mv ls p' ms' u9 bv w1:=by
 have h2:=h.bw;have hz:=h.kept.size;refine⟨hr,hp,hm,h.lits.cZ k (λ x hx=>?_),h.kept.step k (λ x hx=>?_),λ x hx=>?_,h.bw⟩
 ·rcases List.mem_cons.1 hx with rfl | hx
  ·exact .inl h2
  ·exact .inr ⟨vH h.eh.row (by decide) x hx,vH h.eh.row (by decide) x hx⟩
 ·rcases List.mem_cons.1 hx with rfl | hx
  ·exact .inl (by simp)
  ·rcases h.at_ x (by simpa using hx) with h1 | h1
   ·exact .inl (by simp[h1])
   ·exact .inr h1
 ·rcases gT x hx with h1 | h1
  ·exact h.at_ x h1
  ·exact .inr (by omega)
theorem fp.append {W w5:W8}(h:fp w b s num mv ls p ms eU bv w1)(kW:yC [] w1 W){L:yX}{tv EF:Value}
  (ht:w1.ownsRow w.heap.size 191 1 tv L.ts.length (yP L.ts)) (aI:w5.ownsRow w.heap.size 183 3 EF (ls.length+1) (zlt ls++L.cells tv)) (hg:W.grownBy w5 bv.ownBlock):
  fp w b s num mv (ls++[(L,tv)]) p ms eU EF w5:=by
 have h2:=h.bw;have k5:yC bv.ownBlock.toList w1 w5:=((kW.mono (C:=bv.ownBlock.toList) (by simp))).grown hg (λ k e=>.inr (by simp[e]));have aE:∀ k,bv.ownBlock=some k->w.heap.size<=k:=λ k e=>(h.lits.row.lt k e).1
 have nF:b∉bv.ownBlock.toList:=λ hm=>by have:=aE b (by simpa using hm);omega
 have lA:∀ {v:Value} {n:Nat} {xs:V8},w1.ownsRow w.heap.size 191 1 v n xs->w5.ownsRow w.heap.size 191 1 v n xs:=λ {v n xs} hx=>vR hx k5 (λ x hx=>.inr (vH h.lits.row (by decide) x hx))
 refine⟨h.dg.kept k5 nF,h.hp,h.eh.cZ k5 (λ x hx=>.inr ⟨vH h.lits.row (by decide) x hx,vH h.lits.row (by decide) x hx⟩),⟨?_,λ x hx=>?_⟩,h.kept.step k5 (λ x hx=>.inr (aE x (by simpa using hx))),h.at_,h.bw⟩
 ·rw[zr5,List.length_append];exact aI
 ·rcases List.mem_append.1 hx with hx | hx
  ·exact lA (h.lits.each x hx)
  ·simp at hx;subst hx;exact lA ht
end
section
open Go.RowKit
theorem yam:(Tryz.prog.info? 183).map (λ i=>(i.zero,i.size,i.bytes))=some (some (.agg #[.bool false,.string { data:=#[] },.slice none 0 0]),3,48):=by kernel_rfl
theorem z2t (w1:W8)(o:Obj)(L:yX)(tv:Value)(j:Nat)(u:Value)(h:(L.cells tv)[j]?=some u):((w1.alloc o).alloc (Obj.cells #[.bool L.neg,.string L.pd,tv] 183)).cell? ((⟨w1.heap.size+1,0,none⟩:Addr).add j)=some u:=by
 have e:(⟨w1.heap.size+1,0,none⟩:Addr).add j=⟨w1.heap.size+1,j,none⟩:=by unfold Addr.add;split <;> simp_all
 rw[e,World.cell?_alloc_at _ _ _ _ (by simp)];simpa[yX.cells] using h
theorem z7c (L:yX)(a:O8)(n c:Nat):∀ u∈L.cells (.slice a n c),u.oneCell'=true:=by
 intro u hu;simp[yX.cells] at hu;rcases hu with rfl | rfl | rfl <;> rfl
variable {p:Nat} {s:B8}
theorem zp0 {k:Int}(h:p<=s.size):yB s p k<=s.size:=by
 unfold yB;split
 ·exact (xD s p h).2
 ·exact h
theorem z23 (s:B8)(f:Nat):∀ {p:Nat} {l:List (Bool × B8)} {pl:Nat->Nat},p<=s.size->(zR s f p l pl).2.1<=s.size:=by
 induction f with
 | zero=>intro p l pl h;exact h
 | succ f ih=>
  intro p l pl h;have h1:=(xD s p h).2;rw[zR]
  split
  ·split
   ·exact ih (xD s _ h1).2
   ·exact zp0 h1
  ·exact h
theorem zwi (h:p<=s.size):match yV s p with | .no q=>q<=s.size | .yes q _ _ _=>q<=s.size:=by
 have h1:=(xD s p h).2;have h2:=(xD s _ h1).2;have h3:=z23 s 4 (l:=[]) (pl:=λ _=>0) h2;unfold yV
 by_cases c1:(zD s p).1=2
 ·rw[if_pos c1]
  by_cases c2:(zD s (zD s p).2.2).1=5
  ·rw[if_pos c2]
   by_cases c3:(zR s 4 (zD s (zD s p).2.2).2.2 [] (λ _=>0)).1=true
   ·rw[if_pos c3];exact h3
   ·rw[if_neg c3];exact h3
  ·rw[if_neg c2];exact h1
 ·rw[if_neg c1];exact h
theorem zyj (s:B8)(num p:Nat)(l:List yX)(ms:List yU)(n:Nat)(hn:n<3):vB s num (3-n) p l ms=match yV s (yB s p 4) with
  | .no q=>(false,q,l,ms)
  | .yes q pd ts pl=>
   if (zD s q).1=7 then vB s num (3-(n+1)) (zD s q).2.2 (l++[dM s p pd ts]) (ms++[dO s num p pd ts pl])
   else (decide ((zD s q).1=8),yB s q 8,l++[dM s p pd ts],ms++[dO s num p pd ts pl]):=by
 have e:3-n=(3-(n+1))+1:=by omega
 rw[e,vB]
 all_goals (cases yV s (yB s p 4) <;> rfl)
def zu3 (w:W8)(b:Nat)(s:B8)(num:Nat)(mv:Value)(n0:Nat)(P:Bool × Nat × List yX × List yU)(e:Ending)(w':W8):Prop:=
 ∃ (a:O8) (n c:Nat) (gm:Value) (ls:List (yX × Value)) (ms':List (yU × Value)),e=.returned (.tuple #[.slice a n c,.bool P.1])/\yC (b::mv.ownBlock.toList) w w'/\dN w' b s P.2.1 num gm /\
  aC w' (b+1) gm ms'/\ms'.map (·.1)=P.2.2.2/\ms'.length<=n0+3/\(∀ k,gm.ownBlock=some k->mv.ownBlock=some k\/w.heap.size<=k)/\(P.1=true->aK w' w.heap.size (.slice a n c) ls/\ls.map (·.1)=P.2.2.1/\ls.length<=3/\P.2.1<=s.size)
theorem z5u {w:W8}{b num:Nat}{mv:Value}{ls:List (yX × Value)}{ms:List (yU × Value)}{eU bv:Value}{wr:W8}{n0:Nat}{l:List yX}(h:fp w b s num mv ls p ms eU bv wr)(hn:ms.length<=n0+3):zu3 w b s num mv n0 (false,p,l,ms.map (·.1)) (.returned (.tuple #[.slice none 0 0,.bool false])) wr:=
 ⟨none,0,0,eU,[],ms,rfl,h.kept,h.dg,h.eh,rfl,hn,h.at_,λ e=>by cases e⟩
theorem z2q (w:W8)(b:Nat)(s:B8)(pos num:Nat)(mv:Value)(fE:List (yU × Value))(h:dN w b s pos num mv)(eX:aC w (b+1) mv fE)(ed:fE.length<=900)(bn:pos<=s.size)(hs:s.size<=2000000):
  Calls Tryz.prog 117 #[.pointer (some ⟨b,0,none⟩)] w (zu3 w b s num mv fE.length (vB s num 3 pos [] (fE.map (·.1)))):=by
 have dQ:s.size<=maxLen:=by unfold maxLen;omega
 obtain⟨i0,hi,dK,cB,bZ⟩:=info_parts yam;have dj:fp w b s num mv [] pos fE mv (.slice none 0 0) w:=⟨h,bn,eX,⟨World.ownsRow_nil _ _ _ _,by simp⟩,yC.refl _ _,λ k e=>.inl e,h.lt⟩;clear h eX;go_enter Tryz.func117,Tryz.ntmps117;go_wp2_with fail
 go_loopg [4] 5 (λ g bv wr=>∃ (ls:List (yX × Value)) (ms:List (yU × Value)) (p:Nat) (eU:Value),ls.length<=3/\4-ls.length<=g/\ms.length=fE.length+ls.length/\fp w b s num mv ls p ms eU bv wr/\vB s num 3 pos [] (fE.map (·.1))=vB s num (3-ls.length) p (ls.map (·.1)) (ms.map (·.1)))
 exact⟨[],fE,pos,mv,by simp,by simp,by simp,dj,rfl⟩
 case round=>
  clear dj;obtain⟨ls,ms,p,eU,sr,hg,bD,hinv,bj⟩:=hrel;obtain⟨a1,kN,rfl⟩:=zE hinv.lits.row;have HF:=zC bj;clear bj;have dP:=hinv.hp
  by_cases h3:ls.length=3
  ·have IP:¬ ((ls.length:Int)<3):=(by omega);have HI:=zC hinv;clear hinv;go_wp2_with fail
   go_ret2
   rw[zA HF,h3];exact z5u (zA HI) (by omega)
  ·have IP:(ls.length:Int)<3:=(by omega);have lG:ls.length<3:=(by omega);have fS:=zC ((zA HF).trans (zyj s num p (ls.map (·.1)) (ms.map (·.1)) ls.length lG));have sV:w.heap.size<=wr.heap.size:=hinv.kept.size;clear HF h3;go_wp2_with fail;refine (z7b wr b s p num eU ms hinv.dg hinv.eh (by omega) dP hs).mono ?_;intro e w1 hpost;have hq:=zwi (zp0 (k:=4) dP)
   cases hr:yV s (yB s p 4) with
   | no q=>
    rw[hr] at hpost hq fS;obtain⟨rfl,de,ez⟩:=hpost;have cG:=hinv.take de ez hq;have HI:=zC cG;clear hinv de ez hr cG;go_wp2_with fail
    go_ret2
    rw[zA fS];have kk:=(yC.refl [] w1).alloc (Obj.cells #[.bool ((zD s p).1==4),.string { data:=#[] },.slice none 0 0] 183);have hI:=zA HI;exact⟨none,0,0,eU,[],ms,rfl,hI.kept.alloc _,hI.dg.kept kk (by simp),hI.eh.cZ kk (by simp),rfl,by omega,hI.at_,λ e=>by cases e⟩
   | yes q pd ts pl=>
    rw[hr] at hpost hq fS;obtain⟨tv,u9,rfl,de,ez,fa,iN,bq⟩:=hpost;obtain⟨ag,bT,rfl⟩:=zE iN;have cG:=hinv.lit de ez hq fa bq;have gK:=zI iN sV;have bH:=cG.lits.row;have Ks:=cG.kept.size;have HI:=zC cG;clear hinv de ez hr fa iN bq cG;go_wp2_with (at_builtin;refine wpList_append_own _ rfl _ _ 121 rfl w.heap.size 183 i0 _ 3 48 Tryz.underlying121 hi dK cB bZ rfl (by decide) _ _ _ rfl ((bH.alloc _).alloc _) ⟨w1.heap.size+1,0,none⟩ 1 1 ((dM s p pd ts).cells (.slice ag ts.length bT)) rfl rfl (z2t w1 _ (dM s p pd ts) _) (z7c _ _ _ _) (by unfold maxLen;omega) (by omega) (by simp;omega) ?_);intro v5 w5 hown5 dz hne5;clear hne5;obtain⟨a5,gz,rfl⟩:=zE hown5;have eo:=(zA HI).append (L:=dM s p pd ts) (((yC.refl [] w1).alloc _).alloc _) gK hown5 dz;have mj:=zC eo;clear hown5 dz bH HI eo gK;go_wp2_with fail;refine (yQ s q num u9 7 b _ (zA mj).dg hq dQ).mono ?_;rintro e w7 ⟨rfl,mD,bW⟩
    cases hc:(zD s q).1==7 with
    | true=>
     have gD:(zD s q).1=7:=(by simpa using hc);have e7:yB s q 7=(zD s q).2.2:=(by unfold yB;rw[if_pos hc]);rw[e7] at bW;have dA:=(zA mj).take mD bW (xD s q hq).2;have bK:=zC ((zA fS).trans (if_pos gD));have wN:=zC dA;clear fS mj mD bW hc gD e7 dA;go_wp2_with fail;go_roundg (4-(ls.length+1));exact⟨_,_,_,_,by simp;omega,by simp,by simp;omega,zA wN,by simpa[dM,dO] using zA bK⟩;omega
    | false=>
     have gD:¬ (zD s q).1=7:=(by simpa using hc);have e7:yB s q 7=q:=(by unfold yB;rw[if_neg (by rw[hc];decide)]);rw[e7] at bW;have dA:=(zA mj).take mD bW hq;have bK:=zC ((zA fS).trans (if_neg gD));have wN:=zC dA;clear fS mj mD bW hc gD e7 dA;go_wp2_with fail;refine (yQ s q num u9 8 b _ (zA wN).dg hq dQ).mono ?_;rintro e w8 ⟨rfl,so,oq⟩;have bS:=(zA wN).take so oq (zp0 hq);have He:=zC bS;clear wN so oq bS;go_wp2_with fail
     go_ret2
     rw[zA bK];have hI:=zA He;have hb:decide ((zD s q).1=8)=((zD s q).1==8):=(by rw[Bool.eq_iff_iff];simp);refine⟨a5,ls.length+1,gz,_,_,_,by rw[hb];rfl,hI.kept,hI.dg,hI.eh,by simp[dO],by simp;omega,hI.at_,λ _=>⟨by simpa using hI.lits,by simp[dM],by simp;omega,hI.hp⟩⟩
end
end Go.Proofs.YtldkpahaocjdpaaGreat
