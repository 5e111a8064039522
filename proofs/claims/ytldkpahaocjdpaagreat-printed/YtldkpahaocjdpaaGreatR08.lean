/-
  The program's reader: atom, with terms in brackets.
-/
import Derived.Test.YtldkpahaocjdpaaGreatR07
set_option maxHeartbeats 16000000
set_option maxRecDepth 1000000
namespace Go.Proofs.YtldkpahaocjdpaaGreat
section
open Go.RowKit
theorem patom_bad (w:W8)(b:Nat)(s:B8)(pos num:Nat)(mv:Value)(neg:Bool)(start:Nat)(ms:List (PMen × Value))(h:dN w b s pos num mv)(eX:bL w (b+1) mv ms)(bn:pos<=s.size)(hs:s.size<=2000000)(hk:(ae s pos).1=2)(jq:(ae s (ae s pos).2.2).1=5)(ub:(ptermsS s 4 (ae s (ae s pos).2.2).2.2 [] (λ _=>0)).1=false):
  Calls Tryz.prog 98 #[.pointer (some ⟨b,0,none⟩),.bool neg,.int .i64 start] w λ e w'=>e=.returned (.tuple #[.agg #[.string { data:=#[] },.slice none 0 0],.bool false])/\Kept [b] w w'/\dN w' b s (ptermsS s 4 (ae s (ae s pos).2.2).2.2 [] (λ _=>0)).2.1 num mv:=by
 have dQ:s.size<=maxLen:=by unfold maxLen;omega
 have cN:((ae s pos).1==2)=true:=by rw[hk];rfl
 have o7:((ae s (ae s pos).2.2).1==5)=true:=by rw[jq];rfl
 have ht:rtake s pos 2=(ae s pos).2.2:=by unfold rtake;rw[if_pos cN]
 have sO:rtake s (ae s pos).2.2 5=(ae s (ae s pos).2.2).2.2:=by unfold rtake;rw[if_pos o7]
 have HT:=hide ht;have tP:=hide sO;have gG:=(scan_le s pos bn).2;have nG:=(scan_le s (ae s pos).2.2 gG).2;have h0:=eV.start neg start h bn;obtain⟨am,gA,rfl⟩:=own_slice eX.row;obtain⟨bP,c0,c1,c2,c3,c4,c5,fz⟩:=h;clear hk ht sO jq;go_enter Tryz.func98,Tryz.ntmps98;go_wp2_with fail
 go_region
 clear c0 c1 c2 c3 c4 c5 fz;go_wp2_with fail;refine (word_any s pos num _ b _ h0.dg bn hs).mono ?_;rintro e w2 ⟨rfl,aU⟩;have h2:=h0.same aU;have d2:=h2.mc.c2;have df:=h2.mc.fz 2;have h3:=h2.pred (rword s pos);have HI:=hide h3;clear h0 aU h2 h3;go_wp2_with fail;refine (rtake_any s pos num _ 2 b _ (ad HI).dg bn dQ).mono ?_;rintro e w4 ⟨rfl,jO,eY⟩;rw[ad HT] at eY;have h5:=(ad HI).call jO eY gG;clear HI jO eY d2 df;go_wp2_with fail;refine (rtake_any s (ae s pos).2.2 num _ 5 b _ h5.dg gG dQ).mono ?_;rintro e w6 ⟨rfl,qX,mL⟩;rw[ad tP] at mL;have h7:=h5.call qX mL nG;clear h5 qX mL;have yi:b≠w.heap.size+1:=by have:=h7.bw;omega
 go_wp2_with fail;refine (terms_any w6 b (w.heap.size+1) s _ num _ num neg _ start (ae s pos).2.1 _ h7.dg h7.mc yi nG hs).mono ?_;rintro e w8 ⟨rfl,tv,hT⟩;generalize Am:ptermsS s 4 (ae s (ae s pos).2.2).2.2 [] (λ _=>0)=PP at *;obtain⟨ok,p3,ts,pl⟩:=PP;simp only at hT;obtain⟨cy,bT,rfl⟩:=own_slice hT.own;have Dp:w.heap.size+1<w6.heap.size:=h7.mc.lt;have h8:eV w b s num (.slice am ms.length gA) neg start (ae s pos).2.1 (rword s pos) (.slice cy ts.length bT) pl p3 w8:=by
  refine⟨hT.dg,hT.hp,hT.mc,h7.ra.kept hT.kept (by simp;have:=h7.bw;omega),?_,h7.bw⟩;have k1:Kept [b,w.heap.size+1] w w6:=h7.kept.mono (by simp);exact (k1.trans hT.kept).mono (by simp)
 have uU:w8.ownsRow w.heap.size 191 1 (.slice cy ts.length bT) ts.length (ptCells ts):=aw hT.own (by omega);have Ag:=hide (λ g (e:(Value.slice cy ts.length bT).ownBlock=some g)=>(hT.own.lt g e).1);clear hT h7;have bX:ok=false:=ub;subst bX;obtain⟨zH,zI,zJ,zK⟩:=h8.ra;clear uU Ag;go_wp2_with fail;obtain⟨q0,q1⟩:=set2 h8.ra (.string { data:=#[] }) (.slice none 0 0);refine bodyPost_ret (v:=.tuple #[.agg #[.string { data:=#[] },.slice none 0 0],.bool false]) (by simp[results,Tryz.results98,go_sem,q0,q1]) rfl ⟨rfl,?_,?_⟩
 ·exact (h8.kept.setCell (.inr L9) _).setCell (.inr L9) _
 ·rw[Am];exact h8.dg.kept (ra_set w8 w.heap.size (.string { data:=#[] }) (.slice none 0 0)) (by simp;omega)
end
section
open Go.RowKit
def AtomPost (w:W8)(b:Nat)(s:B8)(num:Nat)(mv:Value)(neg:Bool)(start place:Nat)(ms:List (PMen × Value))(r:PRes)(e:Ending)(w':W8):Prop:=
 match r with
 | .no p=>e=.returned (.tuple #[.agg #[.string { data:=#[] },.slice none 0 0],.bool false])/\Kept [b] w w'/\dN w' b s p num mv
 | .yes p pd ts pl=>∃ tv gm,e=.returned (.tuple #[.agg #[.string pd,tv],.bool true])/\Kept (b::mv.ownBlock.toList) w w'/\dN w' b s p num gm/\bL w' (b+1) gm (ms++[(⟨num,neg,pd,ts,start,place,pl⟩,tv)])/\w'.ownsRow w.heap.size 191 1 tv ts.length (ptCells ts)/\(∀ k,gm.ownBlock=some k->mv.ownBlock=some k\/w.heap.size<=k)
theorem patom_any (w:W8)(b:Nat)(s:B8)(pos num:Nat)(mv:Value)(neg:Bool)(start:Nat)(ms:List (PMen × Value))(h:dN w b s pos num mv)(eX:bL w (b+1) mv ms)(ed:ms.length<=1000)(bn:pos<=s.size)(hs:s.size<=2000000):
  Calls Tryz.prog 98 #[.pointer (some ⟨b,0,none⟩),.bool neg,.int .i64 start] w (AtomPost w b s num mv neg start (ae s pos).2.1 ms (patomS s pos)):=by
 by_cases hk:(ae s pos).1=2
 ·by_cases jq:(ae s (ae s pos).2.2).1=5
  ·cases hP:(ptermsS s 4 (ae s (ae s pos).2.2).2.2 [] (λ _=>0)).1 with
   | false=>
    have e:patomS s pos=.no (ptermsS s 4 (ae s (ae s pos).2.2).2.2 [] (λ _=>0)).2.1:=(by unfold patomS;rw[if_pos hk,if_pos jq,if_neg (by rw[hP];decide)]);rw[e];exact patom_bad w b s pos num mv neg start ms h eX bn hs hk jq hP
   | true=>
    have e:patomS s pos=.yes (ptermsS s 4 (ae s (ae s pos).2.2).2.2 [] (λ _=>0)).2.1 (rword s pos) (ptermsS s 4 (ae s (ae s pos).2.2).2.2 [] (λ _=>0)).2.2.1 (ptermsS s 4 (ae s (ae s pos).2.2).2.2 [] (λ _=>0)).2.2.2:=(by unfold patomS;rw[if_pos hk,if_pos jq,if_pos hP]);rw[e];exact patom_yes w b s pos num mv neg start ms h eX ed bn hs hk jq hP
  ·have e:patomS s pos=.yes (ae s pos).2.2 (rword s pos) [] (λ _=>0):=(by unfold patomS;rw[if_pos hk,if_neg jq]);rw[e];exact patom_bare w b s pos num mv neg start ms h eX ed bn hs hk jq
 ·have e:patomS s pos=.no pos:=by unfold patomS;rw[if_neg hk]
  rw[e];exact patom_no w b s pos num mv neg start h bn hs hk
end
section
open Go.RowKit
variable {fr:Nat × Nat} {cur:Array Value} {n0 n base:Nat} {e0:TypeId} {w:W8}
theorem row_apart {e:TypeId}{size:Nat}{v:Value}{xs:V8}(h:w.ownsRow base e size v n xs)(hb:w.heap[n0]?=some (.cells cur e0 fr))(bG:e≠e0):∀ g,v.ownBlock=some g->g≠n0:=by
 intro g hg hgn;subst hgn;rcases h.2 with⟨rfl,_⟩ | ⟨g',cap,BW,rfl,_,dn,_⟩
 ·cases hg
 ·injection hg with hg
  simp only at hg;subst hg;rw[hb] at dn;injection dn with dn
  injection dn with _ dn _
  exact bG dn.symm
theorem men_apart {w':W8}{mv:Value}{ms:List (PMen × Value)}(h:bL w base mv ms)(hb:w.heap[n0]?=some (.cells cur e0 fr))(h1:221≠e0)(h2:191≠e0)(k:Kept [n0] w w'):bL w' base mv ms:=
 men_fin h k (row_apart h.row hb h1) (λ x hx=>row_apart (h.each x hx) hb h2)
def LitPost (w:W8)(b:Nat)(s:B8)(num:Nat)(mv:Value)(neg:Bool)(start place:Nat)(ms:List (PMen × Value))(r:PRes)(e:Ending)(w':W8):Prop:=
 match r with
 | .no p=>e=.returned (.tuple #[.agg #[.bool neg,.string { data:=#[] },.slice none 0 0],.bool false])/\Kept [b] w w'/\dN w' b s p num mv
 | .yes p pd ts pl=>∃ tv gm,e=.returned (.tuple #[.agg #[.bool neg,.string pd,tv],.bool true])/\Kept (b::mv.ownBlock.toList) w w'/\dN w' b s p num gm/\bL w' (b+1) gm (ms++[(⟨num,neg,pd,ts,start,place,pl⟩,tv)])/\w'.ownsRow w.heap.size 191 1 tv ts.length (ptCells ts)/\(∀ k,gm.ownBlock=some k->mv.ownBlock=some k\/w.heap.size<=k)
theorem block_cells {c:Array Value}{t:TypeId}(h:w.heap[n]?=some (.cells c t (0,0)))(j:Nat):w.cell? ⟨n,j,none⟩=c[j]?/\w.frozen? ⟨n,j,none⟩=false:=by
 unfold World.cell? World.frozen?;simp[h]
theorem kept3 (w1:W8)(n:Nat)(v0 v1 v2:Value):Kept [n] w1 (((w1.setCell ⟨n,0,none⟩ v0).setCell ⟨n,1,none⟩ v1).setCell ⟨n,2,none⟩ v2):=
 (((Kept.refl [n] w1).setCell (by simp) _).setCell (by simp) _).setCell (by simp) _
theorem Kept.zG {B:List Nat}{w1 w2:W8}(h:Kept B w w1)(k:Kept [w.heap.size] w1 w2):Kept B w w2:=
 ⟨k.os.trans h.os,k.tape.trans h.tape,k.output.trans h.output,Nat.le_trans h.size k.size,λ i hi hn=>(k.block i (Nat.lt_of_lt_of_le hi h.size) (by simp;omega)).trans (h.block i hi hn)⟩
theorem plit_any (w:W8)(b:Nat)(s:B8)(pos num:Nat)(mv:Value)(ms:List (PMen × Value))(h:dN w b s pos num mv)(eX:bL w (b+1) mv ms)(ed:ms.length<=1000)(bn:pos<=s.size)(hs:s.size<=2000000):
  Calls Tryz.prog 175 #[.pointer (some ⟨b,0,none⟩)] w (LitPost w b s num mv ((ae s pos).1==4) (ae s pos).2.1 (ae s (rtake s pos 4)).2.1 ms (patomS s (rtake s pos 4))):=by
 have dQ:s.size<=maxLen:=by unfold maxLen;omega
 have h0:=h.kept ((Kept.refl [] w).alloc (.cells #[.bool false,.string { data:=#[] },.slice none 0 0] 183)) (by simp);have pk:=eX.kept ((Kept.refl [] w).alloc (.cells #[.bool false,.string { data:=#[] },.slice none 0 0] 183)) (by simp);have gG:rtake s pos 4<=s.size:=by unfold rtake;split;exact (scan_le s pos bn).2;exact bn
 have nV:=hide (λ k (e:mv.ownBlock=some k)=>(eX.row.lt k e).2);obtain⟨bP,c0,c1,c2,c3,c4,c5,fz⟩:=h;have jL:(w.alloc (.cells #[.bool false,.string { data:=#[] },.slice none 0 0] 183)).heap[w.heap.size]?=some (.cells #[.bool false,.string { data:=#[] },.slice none 0 0] 183 (0,0)):=heap_alloc_new w _;have jF:=hide jL;clear jL;go_enter Tryz.func175,Tryz.ntmps175;go_wp2_with fail;refine (rtake_any s pos num mv 4 b _ h0 bn dQ).mono ?_;rintro e w1 ⟨rfl,de,ez⟩;have uI:=pk.kept de (by simp);clear c0 c1 c2 c3 c4 c5 fz h0 pk;go_wp2_with fail;refine (patom_any w1 b s (rtake s pos 4) num mv _ _ ms ez uI ed gG hs).mono ?_;intro e w2 hpost
 cases hr:patomS s (rtake s pos 4) with
 | no p=>
  rw[hr] at hpost;obtain⟨rfl,cN,fc⟩:=hpost;have kg:=de.trans cN;have aU:=(kg.block w.heap.size (by simp) (by simp;omega)).trans (ad jF);obtain⟨a0,f0⟩:=block_cells aU 0;obtain⟨a1,f1⟩:=block_cells aU 1;obtain⟨a2,f2⟩:=block_cells aU 2;have lI:w.heap.size<w2.heap.size:=by have:=kg.size;simp at this;omega
  have HR:=hide hr;clear hr de ez uI cN;go_wp2_with fail;obtain⟨q0,q1,q2⟩:=set3 a0 a1 a2 (.bool ((ae s pos).1==4)) (.string { data:=#[] }) (.slice none 0 0);have q0:=past5 q0;have q1:=past5 q1;have q2:=past5 q2;have k3:=(kept3 w2 w.heap.size (.bool ((ae s pos).1==4)) (.string { data:=#[] }) (.slice none 0 0)).alloc (Obj.cells #[.string { data:=#[] },.slice none 0 0] 79);refine bodyPost_ret (v:=.tuple #[.agg #[.bool ((ae s pos).1==4),.string { data:=#[] },.slice none 0 0],.bool false]) (by simp[results,Tryz.results175,go_sem,q0,q1,q2]) rfl ?_;rw[ad HR];exact⟨rfl,(((Kept.refl [b] w).alloc _).trans kg).zG k3,fc.kept k3 (by simp;omega)⟩
 | yes p pd ts pl=>
  rw[hr] at hpost;obtain⟨tv,gm,rfl,cN,fc,eG,gK,kj⟩:=hpost;obtain⟨cy,bT,rfl⟩:=own_slice gK;have kg:=(de.mono (C:=b::mv.ownBlock.toList) (by simp)).trans cN
  have aU:=(kg.block w.heap.size (by simp) (by
   intro hm;rcases List.mem_cons.1 hm with hm | hm
   ·omega
   ·have:=ad nV w.heap.size (by simpa using hm);omega)).trans (ad jF)
  obtain⟨a0,f0⟩:=block_cells aU 0;obtain⟨a1,f1⟩:=block_cells aU 1;obtain⟨a2,f2⟩:=block_cells aU 2;have lI:w.heap.size<w2.heap.size:=by have:=kg.size;simp at this;omega
  have bq:w.heap.size<=w1.heap.size:=by have:=de.size;simp at this;omega
  have HR:=hide hr;have ep:=hide aU;have Ey:=hide kj;clear hr de ez uI cN aU kj;go_wp2_with fail;obtain⟨q0,q1,q2⟩:=set3 a0 a1 a2 (.bool ((ae s pos).1==4)) (.string pd) (.slice cy ts.length bT);have q0:=past5 q0;have q1:=past5 q1;have q2:=past5 q2;have k3:=(kept3 w2 w.heap.size (.bool ((ae s pos).1==4)) (.string pd) (.slice cy ts.length bT)).alloc (Obj.cells #[.string pd,.slice cy ts.length bT] 79);refine bodyPost_ret (v:=.tuple #[.agg #[.bool ((ae s pos).1==4),.string pd,.slice cy ts.length bT],.bool true]) (by simp[results,Tryz.results175,go_sem,q0,q1,q2]) rfl ?_;rw[ad HR];exact⟨_,_,rfl,(((Kept.refl _ w).alloc _).trans kg).zG k3,fc.kept k3 (by simp;omega),men_apart eG (ad ep) (by decide) (by decide) k3,aw (ownsRow_apart gK k3 (row_apart gK (ad ep) (by decide))) bq,λ k e=>by rcases ad Ey k e with h1 | h1;exact .inl h1;exact .inr (Nat.le_trans bq h1)⟩
end
section
open Go.RowKit
structure PLit where
 neg:Bool
 pd:B8
 ts:List (Bool × B8)
def PLit.cells (L:PLit)(tv:Value):V8:=[.bool L.neg,.string L.pd,tv]
def plCells (ls:List (PLit × Value)):V8:=ls.flatMap λ x=>x.1.cells x.2
theorem plCells_snoc (l:List (PLit × Value))(A:PLit)(tv:Value):plCells (l++[(A,tv)])=plCells l++A.cells tv:=by simp[plCells]
structure cS (w:W8)(base:Nat)(bv:Value)(ls:List (PLit × Value)):Prop where
 row:w.ownsRow base 183 3 bv ls.length (plCells ls)
 each:∀ x∈ls,w.ownsRow base 191 1 x.2 x.1.ts.length (ptCells x.1.ts)
def cJ (s:B8)(p:Nat)(pd:B8)(ts:List (Bool × B8)):PLit:=⟨(ae s p).1==4,pd,ts⟩
def cK (s:B8)(num p:Nat)(pd:B8)(ts:List (Bool × B8))(pl:Nat->Nat):PMen:=⟨num,(ae s p).1==4,pd,ts,(ae s p).2.1,(ae s (rtake s p 4)).2.1,pl⟩
def pbodyS (s:B8)(num:Nat):Nat->Nat->List PLit->List PMen->Bool × Nat × List PLit × List PMen
 | 0,p,l,ms=>(false,p,l,ms)
 | f+1,p,l,ms=>
  match patomS s (rtake s p 4) with
  | .no q=>(false,q,l,ms)
  | .yes q pd ts pl=>
   if (ae s q).1=7 then pbodyS s num f (ae s q).2.2 (l++[cJ s p pd ts]) (ms++[cK s num p pd ts pl])
   else (decide ((ae s q).1=8),rtake s q 8,l++[cJ s p pd ts],ms++[cK s num p pd ts pl])
structure PRule where
 pd:B8
 ts:List (Bool × B8)
 body:List PLit
def dc (s:B8)(num p:Nat)(pd:B8)(ts:List (Bool × B8))(pl:Nat->Nat):PMen:=⟨num,false,pd,ts,(ae s p).2.1,(ae s p).2.1,pl⟩
def pruleS (s:B8)(num p:Nat)(ms:List PMen):Bool × Nat × PRule × List PMen:=
 match patomS s p with
 | .no q=>(false,q,⟨{ data:=#[] },[],[]⟩,ms)
 | .yes q pd ts pl=>
  if (ae s q).1=8 then (true,(ae s q).2.2,⟨pd,ts,[]⟩,ms++[dc s num p pd ts pl])
  else if (ae s q).1=9 then
   ((pbodyS s num 3 (ae s q).2.2 [] (ms++[dc s num p pd ts pl])).1,(pbodyS s num 3 (ae s q).2.2 [] (ms++[dc s num p pd ts pl])).2.1,⟨pd,ts,(pbodyS s num 3 (ae s q).2.2 [] (ms++[dc s num p pd ts pl])).2.2.1⟩,(pbodyS s num 3 (ae s q).2.2 [] (ms++[dc s num p pd ts pl])).2.2.2)
  else (false,q,⟨pd,ts,[]⟩,ms++[dc s num p pd ts pl])
def prulesS (s:B8):Nat->Nat->List PRule->List PMen->Bool × Nat × List PRule × List PMen
 | 0,p,rs,ms=>(false,p,rs,ms)
 | f+1,p,rs,ms=>
  if (ae s p).1=0 then (true,p,rs,ms)
  else if rs.length=30 then (false,p,rs,ms)
  else if (pruleS s rs.length p ms).1 then prulesS s f (pruleS s rs.length p ms).2.1 (rs++[(pruleS s rs.length p ms).2.2.1]) (pruleS s rs.length p ms).2.2.2
  else (false,(pruleS s rs.length p ms).2.1,rs,(pruleS s rs.length p ms).2.2.2)
variable {xs:V8} {n size base:Nat} {v:Value} {e:TypeId} {w w':W8}
theorem own_block (h:w.ownsRow base e size v n xs)(hb:∀ g,v.ownBlock=some g->w'.heap[g]?=w.heap[g]?):w'.ownsRow base e size v n xs:=by
 refine⟨h.1,?_⟩;rcases h.2 with hn | ⟨g,cap,cur,rfl,Ap,dn,rest⟩
 ·exact .inl hn
 ·exact .inr ⟨g,cap,cur,rfl,Ap,(hb g rfl).trans dn,rest⟩
def dM (w:W8)(e:TypeId)(x:Nat):Prop:=∀ c fr,w.heap[x]?≠some (.cells c e fr)
theorem own_notT {e0:TypeId}(h:w.ownsRow base e0 size v n xs)(bG:e0≠e):∀ x∈v.ownBlock.toList,dM w e x:=by
 intro x hx c fr he;have uZ:v.ownBlock=some x:=by simpa using hx
 rcases h.2 with⟨rfl,_⟩ | ⟨g,cap,cur,rfl,_,dn,_⟩
 ·cases uZ
 ·injection uZ with uZ
  simp only at uZ;subst uZ;rw[he] at dn;injection dn with dn
  injection dn with _ dn _
  exact bG dn.symm
variable {B:List Nat}
theorem own_keptT (h:w.ownsRow base e size v n xs)(k:Kept B w w')(hB:∀ x∈B,x<base\/dM w e x):w'.ownsRow base e size v n xs:=by
 refine⟨h.1,?_⟩;rcases h.2 with hn | ⟨g,cap,cur,rfl,Ap,dn,rest⟩
 ·exact .inl hn
 ·refine .inr ⟨g,cap,cur,rfl,Ap,?_,rest⟩
  rw[k.block g (Array.getElem?_eq_some_iff.1 dn).1 (λ hm=>by
   rcases hB g hm with h1 | h1
   ·omega
   ·exact h1 _ _ dn)]
  exact dn
theorem Kept.step {C:List Nat}{a:W8}(h:Kept B a w)(k:Kept C w w')(hC:∀ x∈C,x∈B\/a.heap.size<=x):Kept B a w':=
 ⟨k.os.trans h.os,k.tape.trans h.tape,k.output.trans h.output,Nat.le_trans h.size k.size,λ i hi hn=>(k.block i (Nat.lt_of_lt_of_le hi h.size) (λ hm=>by
  rcases hC i hm with h1 | h1
  ·exact hn h1
  ·omega)).trans (h.block i hi hn)⟩
variable {ls:List (PLit × Value)} {bv:Value}
theorem cS.cZ (h:cS w base bv ls)(k:Kept B w w')(hB:∀ x∈B,x<base\/(dM w 183 x/\dM w 191 x)):cS w' base bv ls:=
 ⟨own_keptT h.row k (λ x hx=>(hB x hx).imp id And.left),λ y hy=>own_keptT (h.each y hy) k (λ x hx=>(hB x hx).imp id And.right)⟩
theorem cS.low {base':Nat}(h:cS w base bv ls)(hb:base'<=base):cS w base' bv ls:=
 ⟨aw h.row hb,λ y hy=>aw (h.each y hy) hb⟩
variable {ms:List (PMen × Value)} {mv:Value}
theorem bL.cZ (h:bL w base mv ms)(k:Kept B w w')(hB:∀ x∈B,x<base\/(dM w 221 x/\dM w 191 x)):bL w' base mv ms:=
 ⟨own_keptT h.row k (λ x hx=>(hB x hx).imp id And.left),λ y hy=>own_keptT (h.each y hy) k (λ x hx=>(hB x hx).imp id And.right)⟩
structure iu (w:W8)(b:Nat)(s:B8)(num:Nat)(mv:Value)(ls:List (PLit × Value))(p:Nat)(ms:List (PMen × Value))(eU bv:Value)(wr:W8):Prop where
 dg:dN wr b s p num eU
 hp:p<=s.size
 eh:bL wr (b+1) eU ms
 lits:cS wr w.heap.size bv ls
 kept:Kept (b::mv.ownBlock.toList) w wr
 at_:∀ k,eU.ownBlock=some k->mv.ownBlock=some k\/w.heap.size<=k
 bw:b<w.heap.size
variable {p' p num b:Nat} {wr w1:W8} {eU:Value} {s:B8}
theorem iu.take (h:iu w b s num mv ls p ms eU bv wr)(k:Kept [b] wr w1)(hr:dN w1 b s p' num eU)(hp:p'<=s.size):iu w b s num mv ls p' ms eU bv w1:=
 have h2:=h.bw
 ⟨hr,hp,h.eh.kept k (by simp),h.lits.cZ k (by simp;omega),h.kept.step k (by simp),h.at_,h.bw⟩
theorem iu.lit {u9:Value}{ms':List (PMen × Value)}(h:iu w b s num mv ls p ms eU bv wr)(k:Kept (b::eU.ownBlock.toList) wr w1)(hr:dN w1 b s p' num u9)(hp:p'<=s.size)(hm:bL w1 (b+1) u9 ms')(gT:∀ k,u9.ownBlock=some k->eU.ownBlock=some k\/wr.heap.size<=k):iu w b s num mv ls p' ms' u9 bv w1:=by
 have h2:=h.bw;have hz:=h.kept.size;refine⟨hr,hp,hm,h.lits.cZ k (λ x hx=>?_),h.kept.step k (λ x hx=>?_),λ x hx=>?_,h.bw⟩
 ·rcases List.mem_cons.1 hx with rfl | hx
  ·exact .inl h2
  ·exact .inr ⟨own_notT h.eh.row (by decide) x hx,own_notT h.eh.row (by decide) x hx⟩
 ·rcases List.mem_cons.1 hx with rfl | hx
  ·exact .inl (by simp)
  ·rcases h.at_ x (by simpa using hx) with h1 | h1
   ·exact .inl (by simp[h1])
   ·exact .inr h1
 ·rcases gT x hx with h1 | h1
  ·exact h.at_ x h1
  ·exact .inr (by omega)
theorem iu.append {W w5:W8}(h:iu w b s num mv ls p ms eU bv w1)(kW:Kept [] w1 W){L:PLit}{tv EF:Value}
  (ht:w1.ownsRow w.heap.size 191 1 tv L.ts.length (ptCells L.ts)) (aI:w5.ownsRow w.heap.size 183 3 EF (ls.length+1) (plCells ls++L.cells tv)) (hg:W.grownBy w5 bv.ownBlock):
  iu w b s num mv (ls++[(L,tv)]) p ms eU EF w5:=by
 have h2:=h.bw;have k5:Kept bv.ownBlock.toList w1 w5:=((kW.mono (C:=bv.ownBlock.toList) (by simp))).grown hg (λ k e=>.inr (by simp[e]));have aE:∀ k,bv.ownBlock=some k->w.heap.size<=k:=λ k e=>(h.lits.row.lt k e).1
 have nF:b∉bv.ownBlock.toList:=λ hm=>by have:=aE b (by simpa using hm);omega
 have lA:∀ {v:Value} {n:Nat} {xs:V8},w1.ownsRow w.heap.size 191 1 v n xs->w5.ownsRow w.heap.size 191 1 v n xs:=λ {v n xs} hx=>own_keptT hx k5 (λ x hx=>.inr (own_notT h.lits.row (by decide) x hx))
 refine⟨h.dg.kept k5 nF,h.hp,h.eh.cZ k5 (λ x hx=>.inr ⟨own_notT h.lits.row (by decide) x hx,own_notT h.lits.row (by decide) x hx⟩),⟨?_,λ x hx=>?_⟩,h.kept.step k5 (λ x hx=>.inr (aE x (by simpa using hx))),h.at_,h.bw⟩
 ·rw[plCells_snoc,List.length_append];exact aI
 ·rcases List.mem_append.1 hx with hx | hx
  ·exact lA (h.lits.each x hx)
  ·simp at hx;subst hx;exact lA ht
end
section
open Go.RowKit
theorem infoLit:(Tryz.prog.info? 183).map (λ i=>(i.zero,i.size,i.bytes))=some (some (.agg #[.bool false,.string { data:=#[] },.slice none 0 0]),3,48):=by kernel_rfl
theorem plit_cell (w1:W8)(o:Obj)(L:PLit)(tv:Value)(j:Nat)(u:Value)(h:(L.cells tv)[j]?=some u):((w1.alloc o).alloc (Obj.cells #[.bool L.neg,.string L.pd,tv] 183)).cell? ((⟨w1.heap.size+1,0,none⟩:Addr).add j)=some u:=by
 have e:(⟨w1.heap.size+1,0,none⟩:Addr).add j=⟨w1.heap.size+1,j,none⟩:=by unfold Addr.add;split <;> simp_all
 rw[e,World.cell?_alloc_at _ _ _ _ (by simp)];simpa[PLit.cells] using h
theorem plit_one (L:PLit)(a:O8)(n c:Nat):∀ u∈L.cells (.slice a n c),u.oneCell'=true:=by
 intro u hu;simp[PLit.cells] at hu;rcases hu with rfl | rfl | rfl <;> rfl
variable {p:Nat} {s:B8}
theorem rtake_le {k:Int}(h:p<=s.size):rtake s p k<=s.size:=by
 unfold rtake;split
 ·exact (scan_le s p h).2
 ·exact h
theorem pterms_le (s:B8)(f:Nat):∀ {p:Nat} {l:List (Bool × B8)} {pl:Nat->Nat},p<=s.size->(ptermsS s f p l pl).2.1<=s.size:=by
 induction f with
 | zero=>intro p l pl h;exact h
 | succ f ih=>
  intro p l pl h;have h1:=(scan_le s p h).2;rw[ptermsS]
  split
  ·split
   ·exact ih (scan_le s _ h1).2
   ·exact rtake_le h1
  ·exact h
theorem patom_le (h:p<=s.size):match patomS s p with | .no q=>q<=s.size | .yes q _ _ _=>q<=s.size:=by
 have h1:=(scan_le s p h).2;have h2:=(scan_le s _ h1).2;have h3:=pterms_le s 4 (l:=[]) (pl:=λ _=>0) h2;unfold patomS
 by_cases c1:(ae s p).1=2
 ·rw[if_pos c1]
  by_cases c2:(ae s (ae s p).2.2).1=5
  ·rw[if_pos c2]
   by_cases c3:(ptermsS s 4 (ae s (ae s p).2.2).2.2 [] (λ _=>0)).1=true
   ·rw[if_pos c3];exact h3
   ·rw[if_neg c3];exact h3
  ·rw[if_neg c2];exact h1
 ·rw[if_neg c1];exact h
theorem pbody_step (s:B8)(num p:Nat)(l:List PLit)(ms:List PMen)(n:Nat)(hn:n<3):pbodyS s num (3-n) p l ms=match patomS s (rtake s p 4) with
  | .no q=>(false,q,l,ms)
  | .yes q pd ts pl=>
   if (ae s q).1=7 then pbodyS s num (3-(n+1)) (ae s q).2.2 (l++[cJ s p pd ts]) (ms++[cK s num p pd ts pl])
   else (decide ((ae s q).1=8),rtake s q 8,l++[cJ s p pd ts],ms++[cK s num p pd ts pl]):=by
 have e:3-n=(3-(n+1))+1:=by omega
 rw[e,pbodyS]
 all_goals (cases patomS s (rtake s p 4) <;> rfl)
def BodyPost (w:W8)(b:Nat)(s:B8)(num:Nat)(mv:Value)(n0:Nat)(P:Bool × Nat × List PLit × List PMen)(e:Ending)(w':W8):Prop:=
 ∃ (a:O8) (n c:Nat) (gm:Value) (ls:List (PLit × Value)) (ms':List (PMen × Value)),e=.returned (.tuple #[.slice a n c,.bool P.1])/\Kept (b::mv.ownBlock.toList) w w'/\dN w' b s P.2.1 num gm /\
  bL w' (b+1) gm ms'/\ms'.map (·.1)=P.2.2.2/\ms'.length<=n0+3/\(∀ k,gm.ownBlock=some k->mv.ownBlock=some k\/w.heap.size<=k)/\(P.1=true->cS w' w.heap.size (.slice a n c) ls/\ls.map (·.1)=P.2.2.1/\ls.length<=3/\P.2.1<=s.size)
theorem body_out {w:W8}{b num:Nat}{mv:Value}{ls:List (PLit × Value)}{ms:List (PMen × Value)}{eU bv:Value}{wr:W8}{n0:Nat}{l:List PLit}(h:iu w b s num mv ls p ms eU bv wr)(hn:ms.length<=n0+3):BodyPost w b s num mv n0 (false,p,l,ms.map (·.1)) (.returned (.tuple #[.slice none 0 0,.bool false])) wr:=
 ⟨none,0,0,eU,[],ms,rfl,h.kept,h.dg,h.eh,rfl,hn,h.at_,λ e=>by cases e⟩
theorem pbody_any (w:W8)(b:Nat)(s:B8)(pos num:Nat)(mv:Value)(fE:List (PMen × Value))(h:dN w b s pos num mv)(eX:bL w (b+1) mv fE)(ed:fE.length<=900)(bn:pos<=s.size)(hs:s.size<=2000000):
  Calls Tryz.prog 117 #[.pointer (some ⟨b,0,none⟩)] w (BodyPost w b s num mv fE.length (pbodyS s num 3 pos [] (fE.map (·.1)))):=by
 have dQ:s.size<=maxLen:=by unfold maxLen;omega
 obtain⟨i0,hi,dK,ir,bZ⟩:=info_parts infoLit;have dj:iu w b s num mv [] pos fE mv (.slice none 0 0) w:=⟨h,bn,eX,⟨World.ownsRow_nil _ _ _ _,by simp⟩,Kept.refl _ _,λ k e=>.inl e,h.lt⟩;clear h eX;go_enter Tryz.func117,Tryz.ntmps117;go_wp2_with fail
 go_loopg [4] 5 (λ g bv wr=>∃ (ls:List (PLit × Value)) (ms:List (PMen × Value)) (p:Nat) (eU:Value),ls.length<=3/\4-ls.length<=g/\ms.length=fE.length+ls.length/\iu w b s num mv ls p ms eU bv wr/\pbodyS s num 3 pos [] (fE.map (·.1))=pbodyS s num (3-ls.length) p (ls.map (·.1)) (ms.map (·.1)))
 exact⟨[],fE,pos,mv,by simp,by simp,by simp,dj,rfl⟩
 case round=>
  clear dj;obtain⟨ls,ms,p,eU,sr,hg,jA,hinv,bj⟩:=hrel;obtain⟨a1,kN,rfl⟩:=own_slice hinv.lits.row;have HF:=hide bj;clear bj;have dP:=hinv.hp
  by_cases h3:ls.length=3
  ·have IP:¬ ((ls.length:Int)<3):=(by omega);have HI:=hide hinv;clear hinv;go_wp2_with fail
   go_ret2
   rw[ad HF,h3];exact body_out (ad HI) (by omega)
  ·have IP:(ls.length:Int)<3:=(by omega);have lG:ls.length<3:=(by omega);have fS:=hide ((ad HF).trans (pbody_step s num p (ls.map (·.1)) (ms.map (·.1)) ls.length lG));have sV:w.heap.size<=wr.heap.size:=hinv.kept.size;clear HF h3;go_wp2_with fail;refine (plit_any wr b s p num eU ms hinv.dg hinv.eh (by omega) dP hs).mono ?_;intro e w1 hpost;have hq:=patom_le (rtake_le (k:=4) dP)
   cases hr:patomS s (rtake s p 4) with
   | no q=>
    rw[hr] at hpost hq fS;obtain⟨rfl,de,ez⟩:=hpost;have cG:=hinv.take de ez hq;have HI:=hide cG;clear hinv de ez hr cG;go_wp2_with fail
    go_ret2
    rw[ad fS];have kk:=(Kept.refl [] w1).alloc (Obj.cells #[.bool ((ae s p).1==4),.string { data:=#[] },.slice none 0 0] 183);have hI:=ad HI;exact⟨none,0,0,eU,[],ms,rfl,hI.kept.alloc _,hI.dg.kept kk (by simp),hI.eh.cZ kk (by simp),rfl,by omega,hI.at_,λ e=>by cases e⟩
   | yes q pd ts pl=>
    rw[hr] at hpost hq fS;obtain⟨tv,u9,rfl,de,ez,fa,iN,bq⟩:=hpost;obtain⟨cy,bT,rfl⟩:=own_slice iN;have cG:=hinv.lit de ez hq fa bq;have gK:=aw iN sV;have bH:=cG.lits.row;have Ks:=cG.kept.size;have HI:=hide cG;clear hinv de ez hr fa iN bq cG;go_wp2_with (at_builtin;refine wpList_append_own _ rfl _ _ 121 rfl w.heap.size 183 i0 _ 3 48 Tryz.underlying121 hi dK ir bZ rfl (by decide) _ _ _ rfl ((bH.alloc _).alloc _) ⟨w1.heap.size+1,0,none⟩ 1 1 ((cJ s p pd ts).cells (.slice cy ts.length bT)) rfl rfl (plit_cell w1 _ (cJ s p pd ts) _) (plit_one _ _ _ _) (by unfold maxLen;omega) (by omega) (by simp;omega) ?_);intro v5 w5 dm dz jv;clear jv;obtain⟨a5,gz,rfl⟩:=own_slice dm;have eo:=(ad HI).append (L:=cJ s p pd ts) (((Kept.refl [] w1).alloc _).alloc _) gK dm dz;have mj:=hide eo;clear dm dz bH HI eo gK;go_wp2_with fail;refine (rtake_any s q num u9 7 b _ (ad mj).dg hq dQ).mono ?_;rintro e w7 ⟨rfl,mD,jR⟩
    cases hc:(ae s q).1==7 with
    | true=>
     have gD:(ae s q).1=7:=(by simpa using hc);have e7:rtake s q 7=(ae s q).2.2:=(by unfold rtake;rw[if_pos hc]);rw[e7] at jR;have dA:=(ad mj).take mD jR (scan_le s q hq).2;have bK:=hide ((ad fS).trans (if_pos gD));have wN:=hide dA;clear fS mj mD jR hc gD e7 dA;go_wp2_with fail;go_roundg (4-(ls.length+1));exact⟨_,_,_,_,by simp;omega,by simp,by simp;omega,ad wN,by simpa[cJ,cK] using ad bK⟩;omega
    | false=>
     have gD:¬ (ae s q).1=7:=(by simpa using hc);have e7:rtake s q 7=q:=(by unfold rtake;rw[if_neg (by rw[hc];decide)]);rw[e7] at jR;have dA:=(ad mj).take mD jR hq;have bK:=hide ((ad fS).trans (if_neg gD));have wN:=hide dA;clear fS mj mD jR hc gD e7 dA;go_wp2_with fail;refine (rtake_any s q num u9 8 b _ (ad wN).dg hq dQ).mono ?_;rintro e w8 ⟨rfl,so,oq⟩;have jN:=(ad wN).take so oq (rtake_le hq);have He:=hide jN;clear wN so oq jN;go_wp2_with fail
     go_ret2
     rw[ad bK];have hI:=ad He;have hb:decide ((ae s q).1=8)=((ae s q).1==8):=(by rw[Bool.eq_iff_iff];simp);refine⟨a5,ls.length+1,gz,_,_,_,by rw[hb];rfl,hI.kept,hI.dg,hI.eh,by simp[cK],by simp;omega,hI.at_,λ _=>⟨by simpa using hI.lits,by simp[cJ],by simp;omega,hI.hp⟩⟩
end
end Go.Proofs.YtldkpahaocjdpaaGreat
