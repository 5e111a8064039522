/-
  Plain: an atom as the program's reader reads it; how the mentions lie in memory.
-/
import Derived.Test.YtldkpahaocjdpaaGreatE08
import Derived.Deep.AppendLies
import Derived.Deep.RegionLaw
set_option maxHeartbeats 16000000
set_option maxRecDepth 1000000
namespace Go.Proofs.YtldkpahaocjdpaaGreat
section
open Go.RowKit
structure xU where
 num:Nat
 neg:Bool
 pd:B8
 ts:List (Bool × B8)
 start:Nat
 place:Nat
 pl:Nat->Nat
def xU.cells (M:xU)(tv:Value):V8:=[.int .i64 M.num,.bool M.neg,.string M.pd,tv,.int .i64 M.start,.int .i64 M.place,.int .i64 (M.pl 0),.int .i64 (M.pl 1),.int .i64 (M.pl 2),.int .i64 (M.pl 3)]
def za6 (ms:List (xU × Value)):V8:=ms.flatMap λ x=>x.1.cells x.2
structure ew (w:W8)(base:Nat)(mv:Value)(ms:List (xU × Value)):Prop where
 row:w.ownsRow base 221 10 mv ms.length (za6 ms)
 each:∀ x∈ms,w.ownsRow base 191 1 x.2 x.1.ts.length (xI x.1.ts)
variable {ms:List (xU × Value)} {mv:Value} {base:Nat} {w w':W8} {B:List Nat}
theorem ew.kept (h:ew w base mv ms)(k:zK B w w')(hB:∀ x∈B,x<base\/w.heap.size<=x):ew w' base mv ms:=by
 have k':zK (B.filter (·<base)) w w':=⟨k.os,k.tape,k.output,k.size,λ i hi hn=>k.block i hi (λ hm=>by
  rcases hB i hm with h1 | h1
  ·exact hn (by simp[hm,h1])
  ·omega)⟩
 exact⟨yI h.row k' (by simp),λ x hx=>yI (h.each x hx) k' (by simp)⟩
inductive yd2 where
 | no (pos:Nat)
 | yes (pos:Nat) (pd:B8) (ts:List (Bool × B8)) (pl:Nat->Nat)
def vD (s:B8)(pos:Nat):yd2:=
 if (zF s pos).1=2 then
  (if (zF s (zF s pos).2.2).1=5 then
   (if (yB s 4 (zF s (zF s pos).2.2).2.2 [] (λ _=>0)).1 then
    .yes (yB s 4 (zF s (zF s pos).2.2).2.2 [] (λ _=>0)).2.1 (xQ s pos) (yB s 4 (zF s (zF s pos).2.2).2.2 [] (λ _=>0)).2.2.1 (yB s 4 (zF s (zF s pos).2.2).2.2 [] (λ _=>0)).2.2.2
   else .no (yB s 4 (zF s (zF s pos).2.2).2.2 [] (λ _=>0)).2.1)
  else .yes (zF s pos).2.2 (xQ s pos) [] (λ _=>0))
 else .no pos
theorem z67 (w:W8)(num:Nat)(neg:Bool)(start place:Nat)(o:Obj):sF ((w.alloc o).alloc (.cells #[.int .i64 num,.bool neg,.string { data:=#[] },.slice none 0 0,.int .i64 start,.int .i64 place,.int .i64 0,.int .i64 0,.int .i64 0,.int .i64 0] 221)) (w.heap.size+1) num neg { data:=#[] } (.slice none 0 0) start place (λ _=>0):=by
 refine⟨by simp,?_,?_,?_,?_,?_,?_,λ i hi=>?_,λ o=>?_⟩
 all_goals first | (rw[World.cell?_alloc_at _ _ _ _ (by simp)];rfl) | (rw[World.frozen?_alloc_at _ _ _ _ (by simp)]) | skip
 rw[World.cell?_alloc_at _ _ _ _ (by simp)];have:i=0\/i=1\/i=2\/i=3:=by omega
 rcases this with rfl | rfl | rfl | rfl <;> rfl
structure RA (w:W8)(n:Nat):Prop where
 lt:n<w.heap.size
 c0:w.cell? ⟨n,0,none⟩=some (.string { data:=#[] })
 c1:w.cell? ⟨n,1,none⟩=some (.slice none 0 0)
 fz:∀ o,w.frozen? ⟨n,o,none⟩=false
variable {n:Nat}
theorem RA.kept (h:RA w n)(k:zK B w w')(hn:n∉B):RA w' n:=
 ⟨Nat.lt_of_lt_of_le h.lt k.size,(k.cell h.lt hn).trans h.c0,(k.cell h.lt hn).trans h.c1,λ o=>(k.frozen h.lt hn).trans (h.fz o)⟩
structure pL (w:W8)(b:Nat)(s:B8)(num:Nat)(mv:Value)(neg:Bool)(start place:Nat)(pd:B8)(tv:Value)(pl:Nat->Nat)(pos:Nat)(wr:W8):Prop where
 dx:dV wr b s pos num mv
 hp:pos<=s.size
 mc:sF wr (w.heap.size+1) num neg pd tv start place pl
 ra:RA wr w.heap.size
 kept:zK [b] w wr
 bw:b<w.heap.size
variable {wr w1:W8} {pos start place num b:Nat} {pl:Nat->Nat} {tv:Value} {pd s:B8} {neg:Bool}
theorem pL.call {pos':Nat}(h:pL w b s num mv neg start place pd tv pl pos wr)(k:zK [b] wr w1)(hr:dV w1 b s pos' num mv)(hp:pos'<=s.size):pL w b s num mv neg start place pd tv pl pos' w1:=
 have h2:=h.bw
 ⟨hr,hp,h.mc.kept k (by simp;omega),h.ra.kept k (by simp;omega),h.kept.trans k,h.bw⟩
theorem pL.same (h:pL w b s num mv neg start place pd tv pl pos wr)(k:Below wr.heap.size wr w1):pL w b s num mv neg start place pd tv pl pos w1:=
 have kk:=(zK.refl [] wr).ak k
 ⟨h.dx.kept kk (by simp),h.hp,h.mc.kept kk (by simp),h.ra.kept kk (by simp),h.kept.ak k,h.bw⟩
theorem pL.pred (h:pL w b s num mv neg start place pd tv pl pos wr)(p:B8):pL w b s num mv neg start place p tv pl pos (wr.setCell ⟨w.heap.size+1,2,none⟩ (.string p)):=by
 have h2:=h.bw;have hm:=h.mc;have k:zK [w.heap.size+1] wr (wr.setCell ⟨w.heap.size+1,2,none⟩ (.string p)):=(zK.refl _ _).setCell (by simp) _;refine⟨h.dx.kept k (by simp;omega),h.hp,⟨by simpa using hm.lt,?_,?_,qV hm.c2,?_,?_,?_,λ i hi=>?_,λ o=>by simpa using hm.fz o⟩,h.ra.kept k (by simp),h.kept.setCell (.inr (by simp)) _,h.bw⟩
 ·rw[yC (by omega)];exact hm.c0
 ·rw[yC (by omega)];exact hm.c1
 ·rw[yC (by omega)];exact hm.c3
 ·rw[yC (by omega)];exact hm.c4
 ·rw[yC (by omega)];exact hm.c5
 ·rw[yC (by omega)];exact hm.cp i hi
theorem pL.start (neg:Bool)(start:Nat)(h:dV w b s pos num mv)(hp:pos<=s.size):pL w b s num mv neg start (zF s pos).2.1 { data:=#[] } (.slice none 0 0) (λ _=>0) pos ((w.alloc (Obj.cells #[.string { data:=#[] },.slice none 0 0] 79)).alloc (Obj.cells #[.int IntKind.i64 ↑num,.bool neg,.string { data:=#[] },.slice none 0 0,.int IntKind.i64 ↑start,.int IntKind.i64 ↑(zF s pos).snd.fst,.int IntKind.i64 0,.int IntKind.i64 0,.int IntKind.i64 0,.int IntKind.i64 0] 221)).drew:=by
 have k:=(((zK.refl [] w).alloc (Obj.cells #[.string { data:=#[] },.slice none 0 0] 79)).alloc (Obj.cells #[.int IntKind.i64 ↑num,.bool neg,.string { data:=#[] },.slice none 0 0,.int IntKind.i64 ↑start,.int IntKind.i64 ↑(zF s pos).snd.fst,.int IntKind.i64 0,.int IntKind.i64 0,.int IntKind.i64 0,.int IntKind.i64 0] 221)).drew;refine⟨h.kept k (by simp),hp,(z67 w num neg start (zF s pos).2.1 _).kept ((zK.refl [] _).drew) (by simp),?_,k.mono (by simp),h.lt⟩;refine RA.kept ⟨by simp;omega,?_,?_,λ o=>?_⟩ ((zK.refl [] _).drew) (by simp)
 ·rw[World.cell?_alloc_past _ _ _ (by simp),World.cell?_alloc_at _ _ _ _ rfl];rfl
 ·rw[World.cell?_alloc_past _ _ _ (by simp),World.cell?_alloc_at _ _ _ _ rfl];rfl
 ·rw[World.frozen?_alloc_past _ _ _ (by simp),World.frozen?_alloc_at _ _ _ _ rfl]
theorem yd6 (h:RA w1 n)(v0 v1:Value):((w1.setCell ⟨n,0,none⟩ v0).setCell ⟨n,1,none⟩ v1).cell? ⟨n,0,none⟩=some v0/\((w1.setCell ⟨n,0,none⟩ v0).setCell ⟨n,1,none⟩ v1).cell? ⟨n,1,none⟩=some v1:=
 ⟨by rw[yC (by omega)];exact qV h.c0,qV (by rw[yC (by omega)];exact h.c1)⟩
theorem zqd (ms:List (xU × Value))(M:xU)(tv:Value):za6 (ms++[(M,tv)])=za6 ms++M.cells tv:=by simp[za6]
theorem z1h (M:xU)(a:O8)(n c:Nat):∀ u∈M.cells (.slice a n c),u.oneCell'=true:=by
 intro u hu;simp[xU.cells] at hu;rcases hu with rfl | rfl | rfl | rfl | rfl | rfl | rfl | rfl | rfl | rfl <;> rfl
theorem z97 {g cap:Nat}(hd:(Value.slice (some ⟨g,0,none⟩) n cap).ownBlock=none\/(Value.slice (some ⟨g,0,none⟩) n cap).ownBlock≠mv.ownBlock):g∉mv.ownBlock.toList:=λ hm=>by
 have nu:mv.ownBlock=some g:=by simpa using hm
 rcases hd with hd | hd
 ·cases hd
 ·exact hd (by rw[nu];rfl)
theorem z5m {W w5:W8}{ts:List (Bool × B8)}{v':Value}
  (h:pL w b s num mv neg start place pd tv pl pos wr) (gT:ew wr (b+1) mv ms) (NL:∀ k,mv.ownBlock=some k->k<w.heap.size) (pG:wr.ownsRow w.heap.size 191 1 tv ts.length (xI ts))
  (hW:∀ k,k<wr.heap.size->W.heap[k]?=wr.heap[k]?) (hS:wr.heap.size<=W.heap.size) (YV:W.os=wr.os) (XD:W.tape=wr.tape) (Pc:W.output=wr.output) (hg:W.grownBy w5 mv.ownBlock)
  (ay:w5.ownsRow (b+1) 221 10 v' (ms.length+1) (za6 ms++(xU.mk num neg pd ts start place pl).cells tv)):
  zK (b::mv.ownBlock.toList) w (w5.setCell ⟨b,5,none⟩ v')/\dV (w5.setCell ⟨b,5,none⟩ v') b s pos num v'/\ew (w5.setCell ⟨b,5,none⟩ v') (b+1) v' (ms++[(⟨num,neg,pd,ts,start,place,pl⟩,tv)])/\(w5.setCell ⟨b,5,none⟩ v').ownsRow w.heap.size 191 1 tv ts.length (xI ts)/\RA (w5.setCell ⟨b,5,none⟩ v') w.heap.size/\sF (w5.setCell ⟨b,5,none⟩ v') (w.heap.size+1) num neg pd tv start place pl/\dV w5 b s pos num mv:=by
 have eo:=h.bw;have G7:=hg.size;have k5:zK mv.ownBlock.toList wr w5:=⟨hg.os.trans YV,hg.tape.trans XD,hg.output.trans Pc,by omega,λ k hk hn=>(hg.block k (by omega) (λ e=>hn (by rw[<-e];simp))).trans (hW k hk)⟩;have Bi:b∉mv.ownBlock.toList:=λ hm=>by
  have:=(gT.row.lt b (by simpa using hm)).1;omega
 have CH:∀ x,w.heap.size<=x->x∉mv.ownBlock.toList:=λ x hx hm=>by
  have:=NL x (by simpa using hm);omega
 have kb:zK [b] w5 (w5.setCell ⟨b,5,none⟩ v'):=(zK.refl _ _).setCell (by simp) _;have r5:=h.dx.kept k5 Bi;have eG:∀ {base:Nat} {v:Value} {n:Nat} {xs:V8},b+1<=base->wr.ownsRow base 191 1 v n xs->(w5.setCell ⟨b,5,none⟩ v').ownsRow base 191 1 v n xs:=by
  intro base v n xs my hx;have hd:=z0o hx gT.row (by decide);refine⟨hx.1,?_⟩;rcases hx.2 with hn | ⟨g,cap,cur,rfl,hb,bS,rest⟩
  ·exact .inl hn
  ·have hl:=(Array.getElem?_eq_some_iff.1 bS).1;refine .inr ⟨g,cap,cur,rfl,hb,?_,rest⟩;rw[Below.heap_setCell _ _ _ _ (by simp;omega),k5.block g hl (z97 hd),bS]
 refine⟨?_,?_,⟨?_,λ x hx=>?_⟩,eG (by omega) pG,(h.ra.kept k5 (CH _ L9)).kept kb (by simp;omega),(h.mc.kept k5 (CH _ (by omega))).kept kb (by simp;omega),r5⟩
 ·have k1:zK (b::mv.ownBlock.toList) w wr:=h.kept.mono (by simp);exact (k1.trans (k5.mono (by simp;intro k hk;exact .inl (.inr hk)))).setCell (by simp) _
 ·obtain⟨q,c0,c1,c2,c3,c4,c5,fz⟩:=r5;exact⟨by simpa using q,by rw[yC (by omega)];exact c0,by rw[yC (by omega)];exact c1,by rw[yC (by omega)];exact c2,by rw[yC (by omega)];exact c3,by rw[yC (by omega)];exact c4,qV c5,λ o=>by simpa using fz o⟩
 ·rw[zqd,List.length_append];exact ownsRow_setCell_below ay (by simp) _
 ·rcases List.mem_append.1 hx with hx | hx
  ·exact eG L9 (gT.each x hx)
  ·simp at hx;subst hx;exact zG (eG (by omega) pG) (by omega)
theorem zbt (w:W8)(n:Nat)(v0 v1:Value):zK [n] w ((w.setCell ⟨n,0,none⟩ v0).setCell ⟨n,1,none⟩ v1):=((zK.refl _ _).setCell (by simp) _).setCell (by simp) _
variable {n0:Nat}
theorem j3 {e:TypeId}{size:Nat}{v:Value}{xs:V8}(h:w.ownsRow base e size v n xs)(k:zK [n0] w w')(hn:∀ g,v.ownBlock=some g->g≠n0):w'.ownsRow base e size v n xs:=by
 refine⟨h.1,?_⟩;rcases h.2 with hx | ⟨g,cap,cur,rfl,hb,bS,rest⟩
 ·exact .inl hx
 ·refine .inr ⟨g,cap,cur,rfl,hb,?_,rest⟩;rw[k.block g (Array.getElem?_eq_some_iff.1 bS).1 (by simp;exact hn g rfl)];exact bS
theorem zut (h:ew w base mv ms)(k:zK [n0] w w')(hm:∀ g,mv.ownBlock=some g->g≠n0)(ht:∀ x∈ms,∀ g,x.2.ownBlock=some g->g≠n0):ew w' base mv ms:=
 ⟨j3 h.row k hm,λ x hx=>j3 (h.each x hx) k (ht x hx)⟩
end
section
open Go.RowKit
theorem z79 (w:W8)(b:Nat)(s:B8)(pos num:Nat)(mv:Value)(neg:Bool)(start:Nat)(h:dV w b s pos num mv)(aJ:pos<=s.size)(hs:s.size<=2000000)(hk:¬ (zF s pos).1=2):
  Calls Tryz.prog 98 #[.pointer (some ⟨b,0,none⟩),.bool neg,.int .i64 start] w λ e w'=>e=.returned (.tuple #[.agg #[.string { data:=#[] },.slice none 0 0],.bool false])/\zK [b] w w'/\dV w' b s pos num mv:=by
 have bN:s.size<=maxLen:=by unfold maxLen;omega
 have bn:((zF s pos).1==2)=false:=by simp[hk]
 have ht:yK s pos 2=pos:=by unfold yK;rw[if_neg (by rw[bn];decide)]
 have HT:=zC ht;have h0:=pL.start neg start h aJ;obtain⟨aH,c0,c1,c2,c3,c4,c5,fz⟩:=h;clear hk ht;go_enter Tryz.func98,Tryz.ntmps98;go_wp2_with fail
 go_region
 clear c0 c1 c2 c3 c4 c5 fz;go_wp2_with fail;refine (zew s pos num mv b _ h0.dx aJ hs).mono ?_;rintro e w2 ⟨rfl,aK⟩;have h2:=h0.same aK;have d2:=h2.mc.c2;have df:=h2.mc.fz 2;have h3:=h2.pred (xQ s pos);have HI:=zC h3;clear h0 aK h2 h3;go_wp2_with fail;refine (xH s pos num mv 2 b _ (zA HI).dx aJ bN).mono ?_;rintro e w4 ⟨rfl,pN,ik⟩;rw[zA HT] at ik;have h5:=(zA HI).call pN ik aJ;have ye:=h5.ra;obtain⟨Ml,LQ,Mb,I2⟩:=ye;clear HI pN ik d2 df;go_wp2_with fail;obtain⟨q0,q1⟩:=yd6 h5.ra (.string { data:=#[] }) (.slice none 0 0);refine bodyPost_ret (v:=.tuple #[.agg #[.string { data:=#[] },.slice none 0 0],.bool false]) (by simp[results,Tryz.results98,go_sem,q0,q1]) rfl ⟨rfl,?_,?_⟩
 ·exact (h5.kept.setCell (.inr L9) _).setCell (.inr L9) _
 ·exact h5.dx.kept (((zK.refl [w.heap.size] _).setCell (by simp) _).setCell (by simp) _) (by simp;omega)
theorem z2k:(Tryz.prog.info? 221).map (λ i=>(i.zero,i.size,i.bytes))=some (some (.agg #[.int .i64 0,.bool false,.string { data:=#[] },.slice none 0 0,.int .i64 0,.int .i64 0,.int .i64 0,.int .i64 0,.int .i64 0,.int .i64 0]),10,104):=by kernel_rfl
theorem zye (w:W8)(b:Nat)(s:B8)(pos num:Nat)(mv:Value)(neg:Bool)(start:Nat)(ms:List (xU × Value))(h:dV w b s pos num mv)(gT:ew w (b+1) mv ms)(bh:ms.length<=1000)(aJ:pos<=s.size)(hs:s.size<=2000000)(hk:(zF s pos).1=2)(mn:¬ (zF s (zF s pos).2.2).1=5):
  Calls Tryz.prog 98 #[.pointer (some ⟨b,0,none⟩),.bool neg,.int .i64 start] w λ e w'=>∃ tv kj,e=.returned (.tuple #[.agg #[.string (xQ s pos),tv],.bool true])/\zK (b::mv.ownBlock.toList) w w'/\dV w' b s (zF s pos).2.2 num kj/\ew w' (b+1) kj (ms++[(⟨num,neg,xQ s pos,[],start,(zF s pos).2.1,λ _=>0⟩,tv)])/\w'.ownsRow w.heap.size 191 1 tv 0 (xI [])/\(∀ k,kj.ownBlock=some k->mv.ownBlock=some k\/w.heap.size<=k):=by
 obtain⟨i0,hi,bL,aY,bf⟩:=info_parts z2k;have bN:s.size<=maxLen:=by unfold maxLen;omega
 have bn:((zF s pos).1==2)=true:=by rw[hk];rfl
 have Bt:((zF s (zF s pos).2.2).1==5)=false:=by simp[mn]
 have ht:yK s pos 2=(zF s pos).2.2:=by unfold yK;rw[if_pos bn]
 have EN:yK s (zF s pos).2.2 5=(zF s pos).2.2:=by unfold yK;rw[if_neg (by rw[Bt];decide)]
 have HT:=zC ht;have Fm:=zC EN;have bI:=(xT s pos aJ).2;have h0:=pL.start neg start h aJ;obtain⟨am,kF,rfl⟩:=zD gT.row;have QP:=zC (λ (x:xU × Value) (hx:x∈ms) k (e:x.2.ownBlock=some k)=>((gT.each x hx).lt k e).2);have lk:=zC (λ k (e:(Value.slice am ms.length kF).ownBlock=some k)=>(gT.row.lt k e).2);obtain⟨aH,c0,c1,c2,c3,c4,c5,fz⟩:=h;clear hk ht EN mn;go_enter Tryz.func98,Tryz.ntmps98;go_wp2_with fail
 go_region
 clear c0 c1 c2 c3 c4 c5 fz;go_wp2_with fail;refine (zew s pos num _ b _ h0.dx aJ hs).mono ?_;rintro e w2 ⟨rfl,aK⟩;have h2:=h0.same aK;have d2:=h2.mc.c2;have df:=h2.mc.fz 2;have h3:=h2.pred (xQ s pos);have HI:=zC h3;clear h0 aK h2 h3;go_wp2_with fail;refine (xH s pos num _ 2 b _ (zA HI).dx aJ bN).mono ?_;rintro e w4 ⟨rfl,pN,ik⟩;rw[zA HT] at ik;have h5:=(zA HI).call pN ik bI;clear HI pN ik d2 df;go_wp2_with fail;refine (xH s (zF s pos).2.2 num _ 5 b _ h5.dx bI bN).mono ?_;rintro e w6 ⟨rfl,DB,uG⟩;rw[zA Fm] at uG;have h7:=h5.call DB uG bI;clear h5 DB uG;have tI:ew w6 (b+1) (.slice am ms.length kF) ms:=gT.kept h7.kept (by simp);obtain⟨x0,x1,x2,x3,x4,x5,x6,xp,xf⟩:=h7.mc;have y0:=xp 0 (by omega);have y1:=xp 1 (by omega);have y2:=xp 2 (by omega);have y3:=xp 3 (by omega);have r5:=h7.dx.c5;have aB:=tI.row;have s1:Hid (((w6.alloc (Obj.cells #[.int IntKind.i64 ↑num,.bool neg,.string (xQ s pos),.slice none 0 0,.int IntKind.i64 ↑start,.int IntKind.i64 ↑(zF s pos).snd.fst,.int IntKind.i64 0,.int IntKind.i64 0,.int IntKind.i64 0,.int IntKind.i64 0] 221)).drew).ownsRow (b+1) 221 10 (Value.slice am ms.length kF) ms.length (za6 ms)):=aB.alloc _;have s2:Hid (∀ j u,([Value.int IntKind.i64 ↑num,.bool neg,.string (xQ s pos),.slice none 0 0,.int IntKind.i64 ↑start,.int IntKind.i64 ↑(zF s pos).snd.fst,.int IntKind.i64 0,.int IntKind.i64 0,.int IntKind.i64 0,.int IntKind.i64 0]:V8)[j]?=some u->((w6.alloc (Obj.cells #[.int IntKind.i64 ↑num,.bool neg,.string (xQ s pos),.slice none 0 0,.int IntKind.i64 ↑start,.int IntKind.i64 ↑(zF s pos).snd.fst,.int IntKind.i64 0,.int IntKind.i64 0,.int IntKind.i64 0,.int IntKind.i64 0] 221)).drew).cell? ((⟨w6.heap.size,0,none⟩:Addr).add j)=some u):=World.news_of_block (heap_alloc_new w6 _);have s3:Hid (∀ u∈([Value.int IntKind.i64 ↑num,.bool neg,.string (xQ s pos),.slice none 0 0,.int IntKind.i64 ↑start,.int IntKind.i64 ↑(zF s pos).snd.fst,.int IntKind.i64 0,.int IntKind.i64 0,.int IntKind.i64 0,.int IntKind.i64 0]:V8),u.oneCell'=true):=z1h ⟨num,neg,xQ s pos,[],start,(zF s pos).2.1,λ _=>0⟩ none 0 0
 have s4:Hid (ms.length+1<=maxLen):=by show _<=_;unfold maxLen;omega
 have s5:Hid ((ms.length+1)*104<=140737488355328):=by show _<=_;omega
 have s6:Hid (b+1<=((w6.alloc (Obj.cells #[.int IntKind.i64 ↑num,.bool neg,.string (xQ s pos),.slice none 0 0,.int IntKind.i64 ↑start,.int IntKind.i64 ↑(zF s pos).snd.fst,.int IntKind.i64 0,.int IntKind.i64 0,.int IntKind.i64 0,.int IntKind.i64 0] 221)).drew).heap.size):=by show _<=_;have:=h7.dx.lt;simp;omega
 have hW:∀ k,k<w6.heap.size->((w6.alloc (Obj.cells #[.int IntKind.i64 ↑num,.bool neg,.string (xQ s pos),.slice none 0 0,.int IntKind.i64 ↑start,.int IntKind.i64 ↑(zF s pos).snd.fst,.int IntKind.i64 0,.int IntKind.i64 0,.int IntKind.i64 0,.int IntKind.i64 0] 221)).drew).heap[k]?=w6.heap[k]?:=λ k hk=>((zK.refl [] w6).alloc _).block k hk (by simp)
 have hS:w6.heap.size<=((w6.alloc (Obj.cells #[.int IntKind.i64 ↑num,.bool neg,.string (xQ s pos),.slice none 0 0,.int IntKind.i64 ↑start,.int IntKind.i64 ↑(zF s pos).snd.fst,.int IntKind.i64 0,.int IntKind.i64 0,.int IntKind.i64 0,.int IntKind.i64 0] 221)).drew).heap.size:=((zK.refl [] w6).alloc _).size;have DC:w6.ownsRow w.heap.size 191 1 (.slice none 0 0) ([]:List (Bool × B8)).length (xI []):=World.ownsRow_nil _ _ _ _;have s8:=zC (λ (w5:W8) (g cap:Nat) (hg:((w6.alloc (Obj.cells #[.int IntKind.i64 ↑num,.bool neg,.string (xQ s pos),.slice none 0 0,.int IntKind.i64 ↑start,.int IntKind.i64 ↑(zF s pos).snd.fst,.int IntKind.i64 0,.int IntKind.i64 0,.int IntKind.i64 0,.int IntKind.i64 0] 221)).drew).grownBy w5 (Value.slice am ms.length kF).ownBlock) (ay:w5.ownsRow (b+1) 221 10 (.slice (some ⟨g,0,none⟩) (ms.length+1) cap) (ms.length+1) (za6 ms++[Value.int IntKind.i64 ↑num,.bool neg,.string (xQ s pos),.slice none 0 0,.int IntKind.i64 ↑start,.int IntKind.i64 ↑(zF s pos).snd.fst,.int IntKind.i64 0,.int IntKind.i64 0,.int IntKind.i64 0,.int IntKind.i64 0]))=>z5m (v':=.slice (some ⟨g,0,none⟩) (ms.length+1) cap) h7 tI (zA lk) DC hW hS rfl rfl rfl hg ay);have h7l:=h7.mc.lt;have nM:=h7.dx.lt;clear hW hS aB tI DC xp;go_wp2_with fail
 go_region_law (refine step_append_lies _ rfl (.tmp 41) (.tmp 43) 98 rfl (b+1) 221 i0 (.agg #[.int .i64 0,.bool false,.string { data:=#[] },.slice none 0 0,.int .i64 0,.int .i64 0,.int .i64 0,.int .i64 0,.int .i64 0,.int .i64 0]) 10 104 Tryz.underlying98 hi bL aY bf rfl (by decide) (Value.slice am ms.length kF) ms.length (za6 ms) (by simp[Act.eval]) (zA s1) ⟨w6.heap.size,0,none⟩ 1 1 [Value.int IntKind.i64 ↑num,.bool neg,.string (xQ s pos),.slice none 0 0,.int IntKind.i64 ↑start,.int IntKind.i64 ↑(zF s pos).snd.fst,.int IntKind.i64 0,.int IntKind.i64 0,.int IntKind.i64 0,.int IntKind.i64 0] (by simp[Act.eval]) rfl (zA s2) (zA s3) (by decide) (zA s4) (zA s5) (zA s6) _ rfl ?_;intro g cap w5 aq aU bW hlt5;obtain⟨e1,e2,e3,e4,e5,e6,e7⟩:=zA s8 w5 g cap aU aq;have z5:=e7.c5;have zf:=e7.fz 5)
 all_goals
  obtain⟨Ml,LQ,Mb,I2⟩:=e5;have m2:=e6.c2;have m3:=e6.c3;have ml:=e6.lt;clear s1 s2 s3 s4 s5 s6 s8 x0 x1 x2 x3 x4 x5 x6 xf y0 y1 y2 y3 r5 z5 zf h7;go_wp2_with fail;obtain⟨q0,q1⟩:=yd6 (RA.mk Ml LQ Mb I2) (.string (xQ s pos)) (.slice none 0 0);have kk:=zbt (w5.setCell ⟨b,5,none⟩ (.slice (some ⟨g,0,none⟩) (ms.length+1) cap)) w.heap.size (.string (xQ s pos)) (.slice none 0 0);refine bodyPost_ret (v:=.tuple #[.agg #[.string (xQ s pos),.slice none 0 0],.bool true]) (by simp[results,Tryz.results98,go_sem,q0,q1]) rfl ⟨_,_,rfl,?_,e2.kept kk (by simp;omega),?_,?_,λ k e=>?_⟩
  ·exact (e1.setCell (.inr L9) _).setCell (.inr L9) _
  ·refine zut e3 kk (λ k e=>?_) (λ x hx k e=>?_)
   ·rcases bW with h1 | h1
    ·have:=zA lk g h1;injection e with e;simp only at e;omega
    ·injection e with e;simp only at e;simp at h1;omega
   ·rcases List.mem_append.1 hx with hx | hx
    ·have:=zA QP x hx k e;omega
    ·simp at hx;subst hx;cases e
  ·exact World.ownsRow_nil _ _ _ _
  ·injection e with e
   simp only at e;subst e;rcases bW with h1 | h1
   ·exact .inl h1
   ·refine .inr ?_;simp at h1;omega
end
section
open Go.RowKit
theorem z35 (w:W8)(b:Nat)(s:B8)(pos num:Nat)(mv:Value)(neg:Bool)(start:Nat)(ms:List (xU × Value))(h:dV w b s pos num mv)(gT:ew w (b+1) mv ms)(aJ:pos<=s.size)(hs:s.size<=2000000)(hk:(zF s pos).1=2)(mn:(zF s (zF s pos).2.2).1=5)(GK:(yB s 4 (zF s (zF s pos).2.2).2.2 [] (λ _=>0)).1=false):
  Calls Tryz.prog 98 #[.pointer (some ⟨b,0,none⟩),.bool neg,.int .i64 start] w λ e w'=>e=.returned (.tuple #[.agg #[.string { data:=#[] },.slice none 0 0],.bool false])/\zK [b] w w'/\dV w' b s (yB s 4 (zF s (zF s pos).2.2).2.2 [] (λ _=>0)).2.1 num mv:=by
 have bN:s.size<=maxLen:=by unfold maxLen;omega
 have bn:((zF s pos).1==2)=true:=by rw[hk];rfl
 have Bt:((zF s (zF s pos).2.2).1==5)=true:=by rw[mn];rfl
 have ht:yK s pos 2=(zF s pos).2.2:=by unfold yK;rw[if_pos bn]
 have EN:yK s (zF s pos).2.2 5=(zF s (zF s pos).2.2).2.2:=by unfold yK;rw[if_pos Bt]
 have HT:=zC ht;have Fm:=zC EN;have bI:=(xT s pos aJ).2;have eM:=(xT s (zF s pos).2.2 bI).2;have h0:=pL.start neg start h aJ;obtain⟨am,kF,rfl⟩:=zD gT.row;obtain⟨aH,c0,c1,c2,c3,c4,c5,fz⟩:=h;clear hk ht EN mn;go_enter Tryz.func98,Tryz.ntmps98;go_wp2_with fail
 go_region
 clear c0 c1 c2 c3 c4 c5 fz;go_wp2_with fail;refine (zew s pos num _ b _ h0.dx aJ hs).mono ?_;rintro e w2 ⟨rfl,aK⟩;have h2:=h0.same aK;have d2:=h2.mc.c2;have df:=h2.mc.fz 2;have h3:=h2.pred (xQ s pos);have HI:=zC h3;clear h0 aK h2 h3;go_wp2_with fail;refine (xH s pos num _ 2 b _ (zA HI).dx aJ bN).mono ?_;rintro e w4 ⟨rfl,pN,ik⟩;rw[zA HT] at ik;have h5:=(zA HI).call pN ik bI;clear HI pN ik d2 df;go_wp2_with fail;refine (xH s (zF s pos).2.2 num _ 5 b _ h5.dx bI bN).mono ?_;rintro e w6 ⟨rfl,DB,uG⟩;rw[zA Fm] at uG;have h7:=h5.call DB uG eM;clear h5 DB uG;have Bi:b≠w.heap.size+1:=by have:=h7.bw;omega
 go_wp2_with fail;refine (zrq w6 b (w.heap.size+1) s _ num _ num neg _ start (zF s pos).2.1 _ h7.dx h7.mc Bi eM hs).mono ?_;rintro e w8 ⟨rfl,tv,hT⟩;generalize ME:yB s 4 (zF s (zF s pos).2.2).2.2 [] (λ _=>0)=PP at *;obtain⟨ok,p3,ts,pl⟩:=PP;simp only at hT;obtain⟨br,bD,rfl⟩:=zD hT.own;have QY:w.heap.size+1<w6.heap.size:=h7.mc.lt;have h8:pL w b s num (.slice am ms.length kF) neg start (zF s pos).2.1 (xQ s pos) (.slice br ts.length bD) pl p3 w8:=by
  refine⟨hT.dx,hT.hp,hT.mc,h7.ra.kept hT.kept (by simp;have:=h7.bw;omega),?_,h7.bw⟩;have k1:zK [b,w.heap.size+1] w w6:=h7.kept.mono (by simp);exact (k1.trans hT.kept).mono (by simp)
 have NN:w8.ownsRow w.heap.size 191 1 (.slice br ts.length bD) ts.length (xI ts):=zG hT.own (by omega);have NO:=zC (λ g (e:(Value.slice br ts.length bD).ownBlock=some g)=>(hT.own.lt g e).1);clear hT h7;have bQ:ok=false:=GK;subst bQ;obtain⟨Ml,LQ,Mb,I2⟩:=h8.ra;clear NN NO;go_wp2_with fail;obtain⟨q0,q1⟩:=yd6 h8.ra (.string { data:=#[] }) (.slice none 0 0);refine bodyPost_ret (v:=.tuple #[.agg #[.string { data:=#[] },.slice none 0 0],.bool false]) (by simp[results,Tryz.results98,go_sem,q0,q1]) rfl ⟨rfl,?_,?_⟩
 ·exact (h8.kept.setCell (.inr L9) _).setCell (.inr L9) _
 ·rw[ME];exact h8.dx.kept (zbt w8 w.heap.size (.string { data:=#[] }) (.slice none 0 0)) (by simp;omega)
end
section
open Go.RowKit
theorem z2o (w:W8)(b:Nat)(s:B8)(pos num:Nat)(mv:Value)(neg:Bool)(start:Nat)(ms:List (xU × Value))(h:dV w b s pos num mv)(gT:ew w (b+1) mv ms)(bh:ms.length<=1000)(aJ:pos<=s.size)(hs:s.size<=2000000)(hk:(zF s pos).1=2)(mn:(zF s (zF s pos).2.2).1=5)(GK:(yB s 4 (zF s (zF s pos).2.2).2.2 [] (λ _=>0)).1=true):
  Calls Tryz.prog 98 #[.pointer (some ⟨b,0,none⟩),.bool neg,.int .i64 start] w λ e w'=>∃ tv kj,e=.returned (.tuple #[.agg #[.string (xQ s pos),tv],.bool true])/\zK (b::mv.ownBlock.toList) w w'/\dV w' b s (yB s 4 (zF s (zF s pos).2.2).2.2 [] (λ _=>0)).2.1 num kj/\ew w' (b+1) kj (ms++[(⟨num,neg,xQ s pos,(yB s 4 (zF s (zF s pos).2.2).2.2 [] (λ _=>0)).2.2.1,start,(zF s pos).2.1,(yB s 4 (zF s (zF s pos).2.2).2.2 [] (λ _=>0)).2.2.2⟩,tv)])/\w'.ownsRow w.heap.size 191 1 tv (yB s 4 (zF s (zF s pos).2.2).2.2 [] (λ _=>0)).2.2.1.length (xI (yB s 4 (zF s (zF s pos).2.2).2.2 [] (λ _=>0)).2.2.1) /\(∀ k,kj.ownBlock=some k->mv.ownBlock=some k\/w.heap.size<=k):=by
 obtain⟨i0,hi,bL,aY,bf⟩:=info_parts z2k;have bN:s.size<=maxLen:=by unfold maxLen;omega
 have bn:((zF s pos).1==2)=true:=by rw[hk];rfl
 have Bt:((zF s (zF s pos).2.2).1==5)=true:=by rw[mn];rfl
 have ht:yK s pos 2=(zF s pos).2.2:=by unfold yK;rw[if_pos bn]
 have EN:yK s (zF s pos).2.2 5=(zF s (zF s pos).2.2).2.2:=by unfold yK;rw[if_pos Bt]
 have HT:=zC ht;have Fm:=zC EN;have bI:=(xT s pos aJ).2;have eM:=(xT s (zF s pos).2.2 bI).2;have h0:=pL.start neg start h aJ;obtain⟨am,kF,rfl⟩:=zD gT.row;have QP:=zC (λ (x:xU × Value) (hx:x∈ms) k (e:x.2.ownBlock=some k)=>((gT.each x hx).lt k e).2);have lk:=zC (λ k (e:(Value.slice am ms.length kF).ownBlock=some k)=>(gT.row.lt k e).2);obtain⟨aH,c0,c1,c2,c3,c4,c5,fz⟩:=h;clear hk ht EN mn;go_enter Tryz.func98,Tryz.ntmps98;go_wp2_with fail
 go_region
 clear c0 c1 c2 c3 c4 c5 fz;go_wp2_with fail;refine (zew s pos num _ b _ h0.dx aJ hs).mono ?_;rintro e w2 ⟨rfl,aK⟩;have h2:=h0.same aK;have d2:=h2.mc.c2;have df:=h2.mc.fz 2;have h3:=h2.pred (xQ s pos);have HI:=zC h3;clear h0 aK h2 h3;go_wp2_with fail;refine (xH s pos num _ 2 b _ (zA HI).dx aJ bN).mono ?_;rintro e w4 ⟨rfl,pN,ik⟩;rw[zA HT] at ik;have h5:=(zA HI).call pN ik bI;clear HI pN ik d2 df;go_wp2_with fail;refine (xH s (zF s pos).2.2 num _ 5 b _ h5.dx bI bN).mono ?_;rintro e w6 ⟨rfl,DB,uG⟩;rw[zA Fm] at uG;have h7:=h5.call DB uG eM;clear h5 DB uG;have Bi:b≠w.heap.size+1:=by have:=h7.bw;omega
 go_wp2_with fail;refine (zrq w6 b (w.heap.size+1) s _ num _ num neg _ start (zF s pos).2.1 _ h7.dx h7.mc Bi eM hs).mono ?_;rintro e w8 ⟨rfl,tv,hT⟩;generalize ME:yB s 4 (zF s (zF s pos).2.2).2.2 [] (λ _=>0)=PP at *;obtain⟨ok,p3,ts,pl⟩:=PP;simp only at hT;obtain⟨br,bD,rfl⟩:=zD hT.own;have QY:w.heap.size+1<w6.heap.size:=h7.mc.lt;have h8:pL w b s num (.slice am ms.length kF) neg start (zF s pos).2.1 (xQ s pos) (.slice br ts.length bD) pl p3 w8:=by
  refine⟨hT.dx,hT.hp,hT.mc,h7.ra.kept hT.kept (by simp;have:=h7.bw;omega),?_,h7.bw⟩;have k1:zK [b,w.heap.size+1] w w6:=h7.kept.mono (by simp);exact (k1.trans hT.kept).mono (by simp)
 have NN:w8.ownsRow w.heap.size 191 1 (.slice br ts.length bD) ts.length (xI ts):=zG hT.own (by omega);have NO:=zC (λ g (e:(Value.slice br ts.length bD).ownBlock=some g)=>(hT.own.lt g e).1);clear hT h7;have bQ:ok=true:=GK;subst bQ;have Lp:=zC ME;clear ME;have tI:ew w8 (b+1) (.slice am ms.length kF) ms:=gT.kept h8.kept (by simp);obtain⟨x0,x1,x2,x3,x4,x5,x6,xp,xf⟩:=h8.mc;have y0:=xp 0 (by omega);have y1:=xp 1 (by omega);have y2:=xp 2 (by omega);have y3:=xp 3 (by omega);have r5:=h8.dx.c5;have aB:=tI.row;have s1:Hid (((w8.alloc (Obj.cells #[.int IntKind.i64 ↑num,.bool neg,.string (xQ s pos),.slice br ts.length bD,.int IntKind.i64 ↑start,.int IntKind.i64 ↑(zF s pos).snd.fst,.int IntKind.i64 ↑(pl 0),.int IntKind.i64 ↑(pl 1),.int IntKind.i64 ↑(pl 2),.int IntKind.i64 ↑(pl 3)] 221)).drew).ownsRow (b+1) 221 10 (Value.slice am ms.length kF) ms.length (za6 ms)):=aB.alloc _;have s2:Hid (∀ j u,([Value.int IntKind.i64 ↑num,.bool neg,.string (xQ s pos),.slice br ts.length bD,.int IntKind.i64 ↑start,.int IntKind.i64 ↑(zF s pos).snd.fst,.int IntKind.i64 ↑(pl 0),.int IntKind.i64 ↑(pl 1),.int IntKind.i64 ↑(pl 2),.int IntKind.i64 ↑(pl 3)]:V8)[j]?=some u->((w8.alloc (Obj.cells #[.int IntKind.i64 ↑num,.bool neg,.string (xQ s pos),.slice br ts.length bD,.int IntKind.i64 ↑start,.int IntKind.i64 ↑(zF s pos).snd.fst,.int IntKind.i64 ↑(pl 0),.int IntKind.i64 ↑(pl 1),.int IntKind.i64 ↑(pl 2),.int IntKind.i64 ↑(pl 3)] 221)).drew).cell? ((⟨w8.heap.size,0,none⟩:Addr).add j)=some u):=World.news_of_block (heap_alloc_new w8 _);have s3:Hid (∀ u∈([Value.int IntKind.i64 ↑num,.bool neg,.string (xQ s pos),.slice br ts.length bD,.int IntKind.i64 ↑start,.int IntKind.i64 ↑(zF s pos).snd.fst,.int IntKind.i64 ↑(pl 0),.int IntKind.i64 ↑(pl 1),.int IntKind.i64 ↑(pl 2),.int IntKind.i64 ↑(pl 3)]:V8),u.oneCell'=true):=z1h ⟨num,neg,xQ s pos,ts,start,(zF s pos).2.1,pl⟩ br ts.length bD;have s4:Hid (ms.length+1<=maxLen):=by show _<=_;unfold maxLen;omega
 have s5:Hid ((ms.length+1)*104<=140737488355328):=by show _<=_;omega
 have s6:Hid (b+1<=((w8.alloc (Obj.cells #[.int IntKind.i64 ↑num,.bool neg,.string (xQ s pos),.slice br ts.length bD,.int IntKind.i64 ↑start,.int IntKind.i64 ↑(zF s pos).snd.fst,.int IntKind.i64 ↑(pl 0),.int IntKind.i64 ↑(pl 1),.int IntKind.i64 ↑(pl 2),.int IntKind.i64 ↑(pl 3)] 221)).drew).heap.size):=by show _<=_;have:=h8.dx.lt;simp;omega
 have hW:∀ k,k<w8.heap.size->((w8.alloc (Obj.cells #[.int IntKind.i64 ↑num,.bool neg,.string (xQ s pos),.slice br ts.length bD,.int IntKind.i64 ↑start,.int IntKind.i64 ↑(zF s pos).snd.fst,.int IntKind.i64 ↑(pl 0),.int IntKind.i64 ↑(pl 1),.int IntKind.i64 ↑(pl 2),.int IntKind.i64 ↑(pl 3)] 221)).drew).heap[k]?=w8.heap[k]?:=λ k hk=>((zK.refl [] w8).alloc _).block k hk (by simp)
 have hS:w8.heap.size<=((w8.alloc (Obj.cells #[.int IntKind.i64 ↑num,.bool neg,.string (xQ s pos),.slice br ts.length bD,.int IntKind.i64 ↑start,.int IntKind.i64 ↑(zF s pos).snd.fst,.int IntKind.i64 ↑(pl 0),.int IntKind.i64 ↑(pl 1),.int IntKind.i64 ↑(pl 2),.int IntKind.i64 ↑(pl 3)] 221)).drew).heap.size:=((zK.refl [] w8).alloc _).size;have s8:=zC (λ (w5:W8) (g cap:Nat) (hg:((w8.alloc (Obj.cells #[.int IntKind.i64 ↑num,.bool neg,.string (xQ s pos),.slice br ts.length bD,.int IntKind.i64 ↑start,.int IntKind.i64 ↑(zF s pos).snd.fst,.int IntKind.i64 ↑(pl 0),.int IntKind.i64 ↑(pl 1),.int IntKind.i64 ↑(pl 2),.int IntKind.i64 ↑(pl 3)] 221)).drew).grownBy w5 (Value.slice am ms.length kF).ownBlock) (ay:w5.ownsRow (b+1) 221 10 (.slice (some ⟨g,0,none⟩) (ms.length+1) cap) (ms.length+1) (za6 ms++[Value.int IntKind.i64 ↑num,.bool neg,.string (xQ s pos),.slice br ts.length bD,.int IntKind.i64 ↑start,.int IntKind.i64 ↑(zF s pos).snd.fst,.int IntKind.i64 ↑(pl 0),.int IntKind.i64 ↑(pl 1),.int IntKind.i64 ↑(pl 2),.int IntKind.i64 ↑(pl 3)]))=>z5m (v':=.slice (some ⟨g,0,none⟩) (ms.length+1) cap) h8 tI (zA lk) NN hW hS rfl rfl rfl hg ay);have h8l:=h8.mc.lt;have nM:=h8.dx.lt;clear hW hS aB tI xp NN;go_wp2_with fail
 go_region_law (refine step_append_lies _ rfl (.tmp 41) (.tmp 43) 98 rfl (b+1) 221 i0 (.agg #[.int .i64 0,.bool false,.string { data:=#[] },.slice none 0 0,.int .i64 0,.int .i64 0,.int .i64 0,.int .i64 0,.int .i64 0,.int .i64 0]) 10 104 Tryz.underlying98 hi bL aY bf rfl (by decide) (Value.slice am ms.length kF) ms.length (za6 ms) (by simp[Act.eval]) (zA s1) ⟨w8.heap.size,0,none⟩ 1 1 [Value.int IntKind.i64 ↑num,.bool neg,.string (xQ s pos),.slice br ts.length bD,.int IntKind.i64 ↑start,.int IntKind.i64 ↑(zF s pos).snd.fst,.int IntKind.i64 ↑(pl 0),.int IntKind.i64 ↑(pl 1),.int IntKind.i64 ↑(pl 2),.int IntKind.i64 ↑(pl 3)] (by simp[Act.eval]) rfl (zA s2) (zA s3) (by decide) (zA s4) (zA s5) (zA s6) _ rfl ?_;intro g cap w5 aq aU bW hlt5;obtain⟨e1,e2,e3,e4,e5,e6,e7⟩:=zA s8 w5 g cap aU aq;have z5:=e7.c5;have zf:=e7.fz 5)
 all_goals
  obtain⟨Ml,LQ,Mb,I2⟩:=e5;have m2:=e6.c2;have m3:=e6.c3;have ml:=e6.lt;clear s1 s2 s3 s4 s5 s6 s8 x0 x1 x2 x3 x4 x5 x6 xf y0 y1 y2 y3 r5 z5 zf h8;go_wp2_with fail;obtain⟨q0,q1⟩:=yd6 (RA.mk Ml LQ Mb I2) (.string (xQ s pos)) (.slice br ts.length bD);have kk:=zbt (w5.setCell ⟨b,5,none⟩ (.slice (some ⟨g,0,none⟩) (ms.length+1) cap)) w.heap.size (.string (xQ s pos)) (.slice br ts.length bD);refine bodyPost_ret (v:=.tuple #[.agg #[.string (xQ s pos),.slice br ts.length bD],.bool true]) (by simp[results,Tryz.results98,go_sem,q0,q1]) rfl ⟨_,_,rfl,?_,by rw[zA Lp];exact e2.kept kk (by simp;omega),?_,?_,λ k e=>?_⟩
  ·exact (e1.setCell (.inr L9) _).setCell (.inr L9) _
  ·rw[zA Lp];refine zut e3 kk (λ k e=>?_) (λ x hx k e=>?_)
   ·rcases bW with h1 | h1
    ·have:=zA lk g h1;injection e with e;simp only at e;omega
    ·injection e with e;simp only at e;simp at h1;omega
   ·rcases List.mem_append.1 hx with hx | hx
    ·have:=zA QP x hx k e;omega
    ·simp at hx;subst hx;have:=zA NO k e;omega
  ·rw[zA Lp];exact j3 e4 kk (λ k e=>by have:=zA NO k e;omega)
  ·injection e with e
   simp only at e;subst e;rcases bW with h1 | h1
   ·exact .inl h1
   ·refine .inr ?_;simp at h1;omega
end
section
open Go.RowKit
def z78 (w:W8)(b:Nat)(s:B8)(num:Nat)(mv:Value)(neg:Bool)(start place:Nat)(ms:List (xU × Value))(r:yd2)(e:Ending)(w':W8):Prop:=
 match r with
 | .no p=>e=.returned (.tuple #[.agg #[.string { data:=#[] },.slice none 0 0],.bool false])/\zK [b] w w'/\dV w' b s p num mv
 | .yes p pd ts pl=>∃ tv kj,e=.returned (.tuple #[.agg #[.string pd,tv],.bool true])/\zK (b::mv.ownBlock.toList) w w'/\dV w' b s p num kj/\ew w' (b+1) kj (ms++[(⟨num,neg,pd,ts,start,place,pl⟩,tv)])/\w'.ownsRow w.heap.size 191 1 tv ts.length (xI ts)/\(∀ k,kj.ownBlock=some k->mv.ownBlock=some k\/w.heap.size<=k)
theorem zla (w:W8)(b:Nat)(s:B8)(pos num:Nat)(mv:Value)(neg:Bool)(start:Nat)(ms:List (xU × Value))(h:dV w b s pos num mv)(gT:ew w (b+1) mv ms)(bh:ms.length<=1000)(aJ:pos<=s.size)(hs:s.size<=2000000):
  Calls Tryz.prog 98 #[.pointer (some ⟨b,0,none⟩),.bool neg,.int .i64 start] w (z78 w b s num mv neg start (zF s pos).2.1 ms (vD s pos)):=by
 by_cases hk:(zF s pos).1=2
 ·by_cases mn:(zF s (zF s pos).2.2).1=5
  ·cases hP:(yB s 4 (zF s (zF s pos).2.2).2.2 [] (λ _=>0)).1 with
   | false=>
    have e:vD s pos=.no (yB s 4 (zF s (zF s pos).2.2).2.2 [] (λ _=>0)).2.1:=(by unfold vD;rw[if_pos hk,if_pos mn,if_neg (by rw[hP];decide)]);rw[e];exact z35 w b s pos num mv neg start ms h gT aJ hs hk mn hP
   | true=>
    have e:vD s pos=.yes (yB s 4 (zF s (zF s pos).2.2).2.2 [] (λ _=>0)).2.1 (xQ s pos) (yB s 4 (zF s (zF s pos).2.2).2.2 [] (λ _=>0)).2.2.1 (yB s 4 (zF s (zF s pos).2.2).2.2 [] (λ _=>0)).2.2.2:=(by unfold vD;rw[if_pos hk,if_pos mn,if_pos hP]);rw[e];exact z2o w b s pos num mv neg start ms h gT bh aJ hs hk mn hP
  ·have e:vD s pos=.yes (zF s pos).2.2 (xQ s pos) [] (λ _=>0):=(by unfold vD;rw[if_pos hk,if_neg mn]);rw[e];exact zye w b s pos num mv neg start ms h gT bh aJ hs hk mn
 ·have e:vD s pos=.no pos:=by unfold vD;rw[if_neg hk]
  rw[e];exact z79 w b s pos num mv neg start h aJ hs hk
end
section
open Go.RowKit
variable {fr:Nat × Nat} {cur:Array Value} {n0 n base:Nat} {e0:TypeId} {w:W8}
theorem zl9 {e:TypeId}{size:Nat}{v:Value}{xs:V8}(h:w.ownsRow base e size v n xs)(hb:w.heap[n0]?=some (.cells cur e0 fr))(bF:e≠e0):∀ g,v.ownBlock=some g->g≠n0:=by
 intro g hg hgn;subst hgn;rcases h.2 with⟨rfl,_⟩ | ⟨g',cap,Qj,rfl,_,bS,_⟩
 ·cases hg
 ·injection hg with hg
  simp only at hg;subst hg;rw[hb] at bS;injection bS with bS
  injection bS with _ bS _
  exact bF bS.symm
theorem z5g {w':W8}{mv:Value}{ms:List (xU × Value)}(h:ew w base mv ms)(hb:w.heap[n0]?=some (.cells cur e0 fr))(h1:221≠e0)(h2:191≠e0)(k:zK [n0] w w'):ew w' base mv ms:=
 zut h k (zl9 h.row hb h1) (λ x hx=>zl9 (h.each x hx) hb h2)
def ybn (w:W8)(b:Nat)(s:B8)(num:Nat)(mv:Value)(neg:Bool)(start place:Nat)(ms:List (xU × Value))(r:yd2)(e:Ending)(w':W8):Prop:=
 match r with
 | .no p=>e=.returned (.tuple #[.agg #[.bool neg,.string { data:=#[] },.slice none 0 0],.bool false])/\zK [b] w w'/\dV w' b s p num mv
 | .yes p pd ts pl=>∃ tv kj,e=.returned (.tuple #[.agg #[.bool neg,.string pd,tv],.bool true])/\zK (b::mv.ownBlock.toList) w w'/\dV w' b s p num kj/\ew w' (b+1) kj (ms++[(⟨num,neg,pd,ts,start,place,pl⟩,tv)])/\w'.ownsRow w.heap.size 191 1 tv ts.length (xI ts)/\(∀ k,kj.ownBlock=some k->mv.ownBlock=some k\/w.heap.size<=k)
theorem zB {c:Array Value}{t:TypeId}(h:w.heap[n]?=some (.cells c t (0,0)))(j:Nat):w.cell? ⟨n,j,none⟩=c[j]?/\w.frozen? ⟨n,j,none⟩=false:=by
 unfold World.cell? World.frozen?;simp[h]
theorem zxs (w1:W8)(n:Nat)(v0 v1 v2:Value):zK [n] w1 (((w1.setCell ⟨n,0,none⟩ v0).setCell ⟨n,1,none⟩ v1).setCell ⟨n,2,none⟩ v2):=
 (((zK.refl [n] w1).setCell (by simp) _).setCell (by simp) _).setCell (by simp) _
theorem zK.dN {B:List Nat}{w1 w2:W8}(h:zK B w w1)(k:zK [w.heap.size] w1 w2):zK B w w2:=
 ⟨k.os.trans h.os,k.tape.trans h.tape,k.output.trans h.output,Nat.le_trans h.size k.size,λ i hi hn=>(k.block i (Nat.lt_of_lt_of_le hi h.size) (by simp;omega)).trans (h.block i hi hn)⟩
theorem z6t (w:W8)(b:Nat)(s:B8)(pos num:Nat)(mv:Value)(ms:List (xU × Value))(h:dV w b s pos num mv)(gT:ew w (b+1) mv ms)(bh:ms.length<=1000)(aJ:pos<=s.size)(hs:s.size<=2000000):
  Calls Tryz.prog 175 #[.pointer (some ⟨b,0,none⟩)] w (ybn w b s num mv ((zF s pos).1==4) (zF s pos).2.1 (zF s (yK s pos 4)).2.1 ms (vD s (yK s pos 4))):=by
 have bN:s.size<=maxLen:=by unfold maxLen;omega
 have h0:=h.kept ((zK.refl [] w).alloc (.cells #[.bool false,.string { data:=#[] },.slice none 0 0] 183)) (by simp);have AW:=gT.kept ((zK.refl [] w).alloc (.cells #[.bool false,.string { data:=#[] },.slice none 0 0] 183)) (by simp);have bI:yK s pos 4<=s.size:=by unfold yK;split;exact (xT s pos aJ).2;exact aJ
 have lk:=zC (λ k (e:mv.ownBlock=some k)=>(gT.row.lt k e).2);obtain⟨aH,c0,c1,c2,c3,c4,c5,fz⟩:=h;have ny:(w.alloc (.cells #[.bool false,.string { data:=#[] },.slice none 0 0] 183)).heap[w.heap.size]?=some (.cells #[.bool false,.string { data:=#[] },.slice none 0 0] 183 (0,0)):=heap_alloc_new w _;have mJ:=zC ny;clear ny;go_enter Tryz.func175,Tryz.ntmps175;go_wp2_with fail;refine (xH s pos num mv 4 b _ h0 aJ bN).mono ?_;rintro e w1 ⟨rfl,aX,iN⟩;have F4:=AW.kept aX (by simp);clear c0 c1 c2 c3 c4 c5 fz h0 AW;go_wp2_with fail;refine (zla w1 b s (yK s pos 4) num mv _ _ ms iN F4 bh bI hs).mono ?_;intro e w2 hpost
 cases hr:vD s (yK s pos 4) with
 | no p=>
  rw[hr] at hpost;obtain⟨rfl,bn,ie⟩:=hpost;have lx:=aX.trans bn;have aK:=(lx.block w.heap.size (by simp) (by simp;omega)).trans (zA mJ);obtain⟨a0,f0⟩:=zB aK 0;obtain⟨a1,f1⟩:=zB aK 1;obtain⟨a2,f2⟩:=zB aK 2;have mB:w.heap.size<w2.heap.size:=by have:=lx.size;simp at this;omega
  have HR:=zC hr;clear hr aX iN F4 bn;go_wp2_with fail;obtain⟨q0,q1,q2⟩:=z9u a0 a1 a2 (.bool ((zF s pos).1==4)) (.string { data:=#[] }) (.slice none 0 0);have q0:=qX q0;have q1:=qX q1;have q2:=qX q2;have k3:=(zxs w2 w.heap.size (.bool ((zF s pos).1==4)) (.string { data:=#[] }) (.slice none 0 0)).alloc (Obj.cells #[.string { data:=#[] },.slice none 0 0] 79);refine bodyPost_ret (v:=.tuple #[.agg #[.bool ((zF s pos).1==4),.string { data:=#[] },.slice none 0 0],.bool false]) (by simp[results,Tryz.results175,go_sem,q0,q1,q2]) rfl ?_;rw[zA HR];exact⟨rfl,(((zK.refl [b] w).alloc _).trans lx).dN k3,ie.kept k3 (by simp;omega)⟩
 | yes p pd ts pl=>
  rw[hr] at hpost;obtain⟨tv,kj,rfl,bn,ie,dC,mr,oJ⟩:=hpost;obtain⟨br,bD,rfl⟩:=zD mr;have lx:=(aX.mono (C:=b::mv.ownBlock.toList) (by simp)).trans bn
  have aK:=(lx.block w.heap.size (by simp) (by
   intro hm;rcases List.mem_cons.1 hm with hm | hm
   ·omega
   ·have:=zA lk w.heap.size (by simpa using hm);omega)).trans (zA mJ)
  obtain⟨a0,f0⟩:=zB aK 0;obtain⟨a1,f1⟩:=zB aK 1;obtain⟨a2,f2⟩:=zB aK 2;have mB:w.heap.size<w2.heap.size:=by have:=lx.size;simp at this;omega
  have dX:w.heap.size<=w1.heap.size:=by have:=aX.size;simp at this;omega
  have HR:=zC hr;have ir:=zC aK;have XS:=zC oJ;clear hr aX iN F4 bn aK oJ;go_wp2_with fail;obtain⟨q0,q1,q2⟩:=z9u a0 a1 a2 (.bool ((zF s pos).1==4)) (.string pd) (.slice br ts.length bD);have q0:=qX q0;have q1:=qX q1;have q2:=qX q2;have k3:=(zxs w2 w.heap.size (.bool ((zF s pos).1==4)) (.string pd) (.slice br ts.length bD)).alloc (Obj.cells #[.string pd,.slice br ts.length bD] 79);refine bodyPost_ret (v:=.tuple #[.agg #[.bool ((zF s pos).1==4),.string pd,.slice br ts.length bD],.bool true]) (by simp[results,Tryz.results175,go_sem,q0,q1,q2]) rfl ?_;rw[zA HR];exact⟨_,_,rfl,(((zK.refl _ w).alloc _).trans lx).dN k3,ie.kept k3 (by simp;omega),z5g dC (zA ir) (by decide) (by decide) k3,zG (j3 mr k3 (zl9 mr (zA ir) (by decide))) dX,λ k e=>by rcases zA XS k e with h1 | h1;exact .inl h1;exact .inr (Nat.le_trans dX h1)⟩
end
end Go.Proofs.YtldkpahaocjdpaaGreat
