/-
  Plain: an atom as the program's reader reads it; how the mentions lie in memory.
-/
import Derived.Test.YtldkpahaocjdpaaGreatE08
import Derived.Deep.AppendLies
import Derived.Deep.RegionLaw
set_option maxHeartbeats 16000000
set_option maxRecDepth 1000000
namespace Go.Proofs.YtldkpahaocjdpaaGreat
section
open Go.RowKit
structure xU where
 num:Nat
 neg:Bool
 pd:B8
 ts:List (Bool × B8)
 start:Nat
 place:Nat
 pl:Nat->Nat
def xU.cells (M:xU)(tv:Value):V8:=[.int .i64 M.num,.bool M.neg,.string M.pd,tv,.int .i64 M.start,.int .i64 M.place,.int .i64 (M.pl 0),.int .i64 (M.pl 1),.int .i64 (M.pl 2),.int .i64 (M.pl 3)]
def za7 (ms:List (xU × Value)):V8:=ms.flatMap λ x=>x.1.cells x.2
structure ey (w:W8)(base:Nat)(mv:Value)(ms:List (xU × Value)):Prop where
 row:w.ownsRow base 221 10 mv ms.length (za7 ms)
 each:∀ x∈ms,w.ownsRow base 191 1 x.2 x.1.ts.length (xH x.1.ts)
variable {ms:List (xU × Value)} {mv:Value} {base:Nat} {w w':W8} {B:List Nat}
theorem ey.kept (h:ey w base mv ms)(k:zK B w w')(hB:∀ x∈B,x<base\/w.heap.size<=x):ey w' base mv ms:=by
 have k':zK (B.filter (·<base)) w w':=⟨k.os,k.tape,k.output,k.size,λ i hi hn=>k.block i hi (λ hm=>by
  rcases hB i hm with h1 | h1
  ·exact hn (by simp[hm,h1])
  ·omega)⟩
 exact⟨yI h.row k' (by simp),λ x hx=>yI (h.each x hx) k' (by simp)⟩
inductive yd2 where
 | no (pos:Nat)
 | yes (pos:Nat) (pd:B8) (ts:List (Bool × B8)) (pl:Nat->Nat)
def vD (s:B8)(pos:Nat):yd2:=
 if (zF s pos).1=2 then
  (if (zF s (zF s pos).2.2).1=5 then
   (if (yB s 4 (zF s (zF s pos).2.2).2.2 [] (λ _=>0)).1 then
    .yes (yB s 4 (zF s (zF s pos).2.2).2.2 [] (λ _=>0)).2.1 (xQ s pos) (yB s 4 (zF s (zF s pos).2.2).2.2 [] (λ _=>0)).2.2.1 (yB s 4 (zF s (zF s pos).2.2).2.2 [] (λ _=>0)).2.2.2
   else .no (yB s 4 (zF s (zF s pos).2.2).2.2 [] (λ _=>0)).2.1)
  else .yes (zF s pos).2.2 (xQ s pos) [] (λ _=>0))
 else .no pos
theorem z7n (w:W8)(num:Nat)(neg:Bool)(start place:Nat)(o:Obj):uf ((w.alloc o).alloc (.cells #[.int .i64 num,.bool neg,.string { data:=#[] },.slice none 0 0,.int .i64 start,.int .i64 place,.int .i64 0,.int .i64 0,.int .i64 0,.int .i64 0] 221)) (w.heap.size+1) num neg { data:=#[] } (.slice none 0 0) start place (λ _=>0):=by
 refine⟨by simp,?_,?_,?_,?_,?_,?_,λ i hi=>?_,λ o=>?_⟩
 all_goals first | (rw[World.cell?_alloc_at _ _ _ _ (by simp)];rfl) | (rw[World.frozen?_alloc_at _ _ _ _ (by simp)]) | skip
 rw[World.cell?_alloc_at _ _ _ _ (by simp)];have:i=0\/i=1\/i=2\/i=3:=by omega
 rcases this with rfl | rfl | rfl | rfl <;> rfl
structure RA (w:W8)(n:Nat):Prop where
 lt:n<w.heap.size
 c0:w.cell? ⟨n,0,none⟩=some (.string { data:=#[] })
 c1:w.cell? ⟨n,1,none⟩=some (.slice none 0 0)
 fz:∀ o,w.frozen? ⟨n,o,none⟩=false
variable {n:Nat}
theorem RA.kept (h:RA w n)(k:zK B w w')(hn:n∉B):RA w' n:=
 ⟨Nat.lt_of_lt_of_le h.lt k.size,(k.cell h.lt hn).trans h.c0,(k.cell h.lt hn).trans h.c1,λ o=>(k.frozen h.lt hn).trans (h.fz o)⟩
structure pM (w:W8)(b:Nat)(s:B8)(num:Nat)(mv:Value)(neg:Bool)(start place:Nat)(pd:B8)(tv:Value)(pl:Nat->Nat)(pos:Nat)(wr:W8):Prop where
 dx:dT wr b s pos num mv
 hp:pos<=s.size
 mc:uf wr (w.heap.size+1) num neg pd tv start place pl
 ra:RA wr w.heap.size
 kept:zK [b] w wr
 bw:b<w.heap.size
variable {wr w1:W8} {pos b:Nat} {tv:Value} {s:B8}
theorem pM.call {num:Nat}{neg:Bool}{start place:Nat}{pd:B8}{pl:Nat->Nat}{pos':Nat}(h:pM w b s num mv neg start place pd tv pl pos wr)(k:zK [b] wr w1)(hr:dT w1 b s pos' num mv)(hp:pos'<=s.size):pM w b s num mv neg start place pd tv pl pos' w1:=
 have h2:=h.bw
 ⟨hr,hp,h.mc.kept k (by simp;omega),h.ra.kept k (by simp;omega),h.kept.trans k,h.bw⟩
theorem pM.same {num:Nat}{neg:Bool}{start place:Nat}{pd:B8}{pl:Nat->Nat}(h:pM w b s num mv neg start place pd tv pl pos wr)(k:Below wr.heap.size wr w1):pM w b s num mv neg start place pd tv pl pos w1:=
 have kk:=(zK.refl [] wr).ak k
 ⟨h.dx.kept kk (by simp),h.hp,h.mc.kept kk (by simp),h.ra.kept kk (by simp),h.kept.ak k,h.bw⟩
theorem pM.pred {num:Nat}{neg:Bool}{start place:Nat}{pd:B8}{pl:Nat->Nat}(h:pM w b s num mv neg start place pd tv pl pos wr)(p:B8):pM w b s num mv neg start place p tv pl pos (wr.setCell ⟨w.heap.size+1,2,none⟩ (.string p)):=by
 have h2:=h.bw;have hm:=h.mc;have k:zK [w.heap.size+1] wr (wr.setCell ⟨w.heap.size+1,2,none⟩ (.string p)):=(zK.refl _ _).setCell (by simp) _;refine⟨h.dx.kept k (by simp;omega),h.hp,⟨by simpa using hm.lt,?_,?_,qT hm.c2,?_,?_,?_,λ i hi=>?_,λ o=>by simpa using hm.fz o⟩,h.ra.kept k (by simp),h.kept.setCell (.inr (by simp)) _,h.bw⟩
 ·rw[yC (by omega)];exact hm.c0
 ·rw[yC (by omega)];exact hm.c1
 ·rw[yC (by omega)];exact hm.c3
 ·rw[yC (by omega)];exact hm.c4
 ·rw[yC (by omega)];exact hm.c5
 ·rw[yC (by omega)];exact hm.cp i hi
theorem pM.start {num:Nat}(neg:Bool)(start:Nat)(h:dT w b s pos num mv)(hp:pos<=s.size):pM w b s num mv neg start (zF s pos).2.1 { data:=#[] } (.slice none 0 0) (λ _=>0) pos ((w.alloc (Obj.cells #[.string { data:=#[] },.slice none 0 0] 79)).alloc (Obj.cells #[.int IntKind.i64 ↑num,.bool neg,.string { data:=#[] },.slice none 0 0,.int IntKind.i64 ↑start,.int IntKind.i64 ↑(zF s pos).snd.fst,.int IntKind.i64 0,.int IntKind.i64 0,.int IntKind.i64 0,.int IntKind.i64 0] 221)).drew:=by
 have k:=(((zK.refl [] w).alloc (Obj.cells #[.string { data:=#[] },.slice none 0 0] 79)).alloc (Obj.cells #[.int IntKind.i64 ↑num,.bool neg,.string { data:=#[] },.slice none 0 0,.int IntKind.i64 ↑start,.int IntKind.i64 ↑(zF s pos).snd.fst,.int IntKind.i64 0,.int IntKind.i64 0,.int IntKind.i64 0,.int IntKind.i64 0] 221)).drew;refine⟨h.kept k (by simp),hp,(z7n w num neg start (zF s pos).2.1 _).kept ((zK.refl [] _).drew) (by simp),?_,k.mono (by simp),h.lt⟩;refine RA.kept ⟨by simp;omega,?_,?_,λ o=>?_⟩ ((zK.refl [] _).drew) (by simp)
 ·rw[World.cell?_alloc_past _ _ _ (by simp),World.cell?_alloc_at _ _ _ _ rfl];rfl
 ·rw[World.cell?_alloc_past _ _ _ (by simp),World.cell?_alloc_at _ _ _ _ rfl];rfl
 ·rw[World.frozen?_alloc_past _ _ _ (by simp),World.frozen?_alloc_at _ _ _ _ rfl]
theorem yd6 (h:RA w1 n)(v0 v1:Value):((w1.setCell ⟨n,0,none⟩ v0).setCell ⟨n,1,none⟩ v1).cell? ⟨n,0,none⟩=some v0/\((w1.setCell ⟨n,0,none⟩ v0).setCell ⟨n,1,none⟩ v1).cell? ⟨n,1,none⟩=some v1:=
 ⟨by rw[yC (by omega)];exact qT h.c0,qT (by rw[yC (by omega)];exact h.c1)⟩
theorem zpq (ms:List (xU × Value))(M:xU)(tv:Value):za7 (ms++[(M,tv)])=za7 ms++M.cells tv:=by simp[za7]
theorem z3p (M:xU)(a:O8)(n c:Nat):∀ u∈M.cells (.slice a n c),u.oneCell'=true:=by
 intro u hu;simp[xU.cells] at hu;rcases hu with rfl | rfl | rfl | rfl | rfl | rfl | rfl | rfl | rfl | rfl <;> rfl
theorem ya6 {g cap:Nat}(hd:(Value.slice (some ⟨g,0,none⟩) n cap).ownBlock=none\/(Value.slice (some ⟨g,0,none⟩) n cap).ownBlock≠mv.ownBlock):g∉mv.ownBlock.toList:=λ hm=>by
 have nw:mv.ownBlock=some g:=by simpa using hm
 rcases hd with hd | hd
 ·cases hd
 ·exact hd (by rw[nw];rfl)
theorem z3o {W w5:W8}{num:Nat}{neg:Bool}{start place:Nat}{pd:B8}{pl:Nat->Nat}{ts:List (Bool × B8)}{v':Value}
  (h:pM w b s num mv neg start place pd tv pl pos wr) (gU:ey wr (b+1) mv ms) (Ni:∀ k,mv.ownBlock=some k->k<w.heap.size) (pH:wr.ownsRow w.heap.size 191 1 tv ts.length (xH ts))
  (hW:∀ k,k<wr.heap.size->W.heap[k]?=wr.heap[k]?) (hS:wr.heap.size<=W.heap.size) (YA:W.os=wr.os) (YL:W.tape=wr.tape) (QH:W.output=wr.output) (hg:W.grownBy w5 mv.ownBlock)
  (ay:w5.ownsRow (b+1) 221 10 v' (ms.length+1) (za7 ms++(xU.mk num neg pd ts start place pl).cells tv)):
  zK (b::mv.ownBlock.toList) w (w5.setCell ⟨b,5,none⟩ v')/\dT (w5.setCell ⟨b,5,none⟩ v') b s pos num v'/\ey (w5.setCell ⟨b,5,none⟩ v') (b+1) v' (ms++[(⟨num,neg,pd,ts,start,place,pl⟩,tv)])/\(w5.setCell ⟨b,5,none⟩ v').ownsRow w.heap.size 191 1 tv ts.length (xH ts)/\RA (w5.setCell ⟨b,5,none⟩ v') w.heap.size/\uf (w5.setCell ⟨b,5,none⟩ v') (w.heap.size+1) num neg pd tv start place pl/\dT w5 b s pos num mv:=by
 have eo:=h.bw;have Gu:=hg.size;have k5:zK mv.ownBlock.toList wr w5:=⟨hg.os.trans YA,hg.tape.trans YL,hg.output.trans QH,by omega,λ k hk hn=>(hg.block k (by omega) (λ e=>hn (by rw[<-e];simp))).trans (hW k hk)⟩;have zo:b∉mv.ownBlock.toList:=λ hm=>by
  have:=(gU.row.lt b (by simpa using hm)).1;omega
 have Dg:∀ x,w.heap.size<=x->x∉mv.ownBlock.toList:=λ x hx hm=>by
  have:=Ni x (by simpa using hm);omega
 have kb:zK [b] w5 (w5.setCell ⟨b,5,none⟩ v'):=(zK.refl _ _).setCell (by simp) _;have r5:=h.dx.kept k5 zo;have eI:∀ {base:Nat} {v:Value} {n:Nat} {xs:V8},b+1<=base->wr.ownsRow base 191 1 v n xs->(w5.setCell ⟨b,5,none⟩ v').ownsRow base 191 1 v n xs:=by
  intro base v n xs mu hx;have hd:=z30 hx gU.row (by decide);refine⟨hx.1,?_⟩;rcases hx.2 with hn | ⟨g,cap,cur,rfl,hb,bS,rest⟩
  ·exact .inl hn
  ·have hl:=(Array.getElem?_eq_some_iff.1 bS).1;refine .inr ⟨g,cap,cur,rfl,hb,?_,rest⟩;rw[Below.heap_setCell _ _ _ _ (by simp;omega),k5.block g hl (ya6 hd),bS]
 refine⟨?_,?_,⟨?_,λ x hx=>?_⟩,eI (by omega) pH,(h.ra.kept k5 (Dg _ L9)).kept kb (by simp;omega),(h.mc.kept k5 (Dg _ (by omega))).kept kb (by simp;omega),r5⟩
 ·have k1:zK (b::mv.ownBlock.toList) w wr:=h.kept.mono (by simp);exact (k1.trans (k5.mono (by simp;intro k hk;exact .inl (.inr hk)))).setCell (by simp) _
 ·obtain⟨q,c0,c1,c2,c3,c4,c5,fz⟩:=r5;exact⟨by simpa using q,by rw[yC (by omega)];exact c0,by rw[yC (by omega)];exact c1,by rw[yC (by omega)];exact c2,by rw[yC (by omega)];exact c3,by rw[yC (by omega)];exact c4,qT c5,λ o=>by simpa using fz o⟩
 ·rw[zpq,List.length_append];exact ownsRow_setCell_below ay (by simp) _
 ·rcases List.mem_append.1 hx with hx | hx
  ·exact eI L9 (gU.each x hx)
  ·simp at hx;subst hx;exact zG (eI (by omega) pH) (by omega)
theorem zby (w:W8)(n:Nat)(v0 v1:Value):zK [n] w ((w.setCell ⟨n,0,none⟩ v0).setCell ⟨n,1,none⟩ v1):=((zK.refl _ _).setCell (by simp) _).setCell (by simp) _
variable {n0:Nat}
theorem j8 {e:TypeId}{size:Nat}{v:Value}{xs:V8}(h:w.ownsRow base e size v n xs)(k:zK [n0] w w')(hn:∀ g,v.ownBlock=some g->g≠n0):w'.ownsRow base e size v n xs:=by
 refine⟨h.1,?_⟩;rcases h.2 with hx | ⟨g,cap,cur,rfl,hb,bS,rest⟩
 ·exact .inl hx
 ·refine .inr ⟨g,cap,cur,rfl,hb,?_,rest⟩;rw[k.block g (Array.getElem?_eq_some_iff.1 bS).1 (by simp;exact hn g rfl)];exact bS
theorem zuk (h:ey w base mv ms)(k:zK [n0] w w')(hm:∀ g,mv.ownBlock=some g->g≠n0)(ht:∀ x∈ms,∀ g,x.2.ownBlock=some g->g≠n0):ey w' base mv ms:=
 ⟨j8 h.row k hm,λ x hx=>j8 (h.each x hx) k (ht x hx)⟩
end
section
open Go.RowKit
theorem z7y (w:W8)(b:Nat)(s:B8)(pos num:Nat)(mv:Value)(neg:Bool)(start:Nat)(h:dT w b s pos num mv)(aJ:pos<=s.size)(hs:s.size<=2000000)(hk:¬ (zF s pos).1=2):
  Calls Tryz.prog 98 #[.pointer (some ⟨b,0,none⟩),.bool neg,.int .i64 start] w λ e w'=>e=.returned (.tuple #[.agg #[.string { data:=#[] },.slice none 0 0],.bool false])/\zK [b] w w'/\dT w' b s pos num mv:=by
 have bM:s.size<=maxLen:=by unfold maxLen;omega
 have bn:((zF s pos).1==2)=false:=by simp[hk]
 have ht:yM s pos 2=pos:=by unfold yM;rw[if_neg (by rw[bn];decide)]
 have HT:=zC ht;have h0:=pM.start neg start h aJ;obtain⟨aH,c0,c1,c2,c3,c4,c5,fz⟩:=h;clear hk ht;go_enter Tryz.func98,Tryz.ntmps98;go_wp2_with fail
 go_region
 clear c0 c1 c2 c3 c4 c5 fz;go_wp2_with fail;refine (ze0 s pos num mv b _ h0.dx aJ hs).mono ?_;rintro e w2 ⟨rfl,aK⟩;have h2:=h0.same aK;have d2:=h2.mc.c2;have df:=h2.mc.fz 2;have h3:=h2.pred (xQ s pos);have HI:=zC h3;clear h0 aK h2 h3;go_wp2_with fail;refine (xI s pos num mv 2 b _ (zA HI).dx aJ bM).mono ?_;rintro e w4 ⟨rfl,pC,il⟩;rw[zA HT] at il;have h5:=(zA HI).call pC il aJ;have xn:=h5.ra;obtain⟨L6,L7,L8,L9⟩:=xn;clear HI pC il d2 df;go_wp2_with fail;obtain⟨q0,q1⟩:=yd6 h5.ra (.string { data:=#[] }) (.slice none 0 0);refine bodyPost_ret (v:=.tuple #[.agg #[.string { data:=#[] },.slice none 0 0],.bool false]) (by simp[results,Tryz.results98,go_sem,q0,q1]) rfl ⟨rfl,?_,?_⟩
 ·exact (h5.kept.setCell (.inr L9) _).setCell (.inr L9) _
 ·exact h5.dx.kept (((zK.refl [w.heap.size] _).setCell (by simp) _).setCell (by simp) _) (by simp;omega)
theorem z2o:(Tryz.prog.info? 221).map (λ i=>(i.zero,i.size,i.bytes))=some (some (.agg #[.int .i64 0,.bool false,.string { data:=#[] },.slice none 0 0,.int .i64 0,.int .i64 0,.int .i64 0,.int .i64 0,.int .i64 0,.int .i64 0]),10,104):=by kernel_rfl
theorem zy2 (w:W8)(b:Nat)(s:B8)(pos num:Nat)(mv:Value)(neg:Bool)(start:Nat)(ms:List (xU × Value))(h:dT w b s pos num mv)(gU:ey w (b+1) mv ms)(bh:ms.length<=1000)(aJ:pos<=s.size)(hs:s.size<=2000000)(hk:(zF s pos).1=2)(my:¬ (zF s (zF s pos).2.2).1=5):
  Calls Tryz.prog 98 #[.pointer (some ⟨b,0,none⟩),.bool neg,.int .i64 start] w λ e w'=>∃ tv kq,e=.returned (.tuple #[.agg #[.string (xQ s pos),tv],.bool true])/\zK (b::mv.ownBlock.toList) w w'/\dT w' b s (zF s pos).2.2 num kq/\ey w' (b+1) kq (ms++[(⟨num,neg,xQ s pos,[],start,(zF s pos).2.1,λ _=>0⟩,tv)])/\w'.ownsRow w.heap.size 191 1 tv 0 (xH [])/\(∀ k,kq.ownBlock=some k->mv.ownBlock=some k\/w.heap.size<=k):=by
 obtain⟨i0,hi,bL,aY,bg⟩:=info_parts z2o;have bM:s.size<=maxLen:=by unfold maxLen;omega
 have bn:((zF s pos).1==2)=true:=by rw[hk];rfl
 have Ak:((zF s (zF s pos).2.2).1==5)=false:=by simp[my]
 have ht:yM s pos 2=(zF s pos).2.2:=by unfold yM;rw[if_pos bn]
 have ED:yM s (zF s pos).2.2 5=(zF s pos).2.2:=by unfold yM;rw[if_neg (by rw[Ak];decide)]
 have HT:=zC ht;have Fz:=zC ED;have bI:=(xT s pos aJ).2;have h0:=pM.start neg start h aJ;obtain⟨am,kJ,rfl⟩:=zD gU.row;have OV:=zC (λ (x:xU × Value) (hx:x∈ms) k (e:x.2.ownBlock=some k)=>((gU.each x hx).lt k e).2);have lf:=zC (λ k (e:(Value.slice am ms.length kJ).ownBlock=some k)=>(gU.row.lt k e).2);obtain⟨aH,c0,c1,c2,c3,c4,c5,fz⟩:=h;clear hk ht ED my;go_enter Tryz.func98,Tryz.ntmps98;go_wp2_with fail
 go_region
 clear c0 c1 c2 c3 c4 c5 fz;go_wp2_with fail;refine (ze0 s pos num _ b _ h0.dx aJ hs).mono ?_;rintro e w2 ⟨rfl,aK⟩;have h2:=h0.same aK;have d2:=h2.mc.c2;have df:=h2.mc.fz 2;have h3:=h2.pred (xQ s pos);have HI:=zC h3;clear h0 aK h2 h3;go_wp2_with fail;refine (xI s pos num _ 2 b _ (zA HI).dx aJ bM).mono ?_;rintro e w4 ⟨rfl,pC,il⟩;rw[zA HT] at il;have h5:=(zA HI).call pC il bI;clear HI pC il d2 df;go_wp2_with fail;refine (xI s (zF s pos).2.2 num _ 5 b _ h5.dx bI bM).mono ?_;rintro e w6 ⟨rfl,Da,uz⟩;rw[zA Fz] at uz;have h7:=h5.call Da uz bI;clear h5 Da uz;have sU:ey w6 (b+1) (.slice am ms.length kJ) ms:=gU.kept h7.kept (by simp);obtain⟨x0,x1,x2,x3,x4,x5,x6,xp,xf⟩:=h7.mc;have y0:=xp 0 (by omega);have y1:=xp 1 (by omega);have y2:=xp 2 (by omega);have y3:=xp 3 (by omega);have r5:=h7.dx.c5;have aB:=sU.row;have s1:Hid (((w6.alloc (Obj.cells #[.int IntKind.i64 ↑num,.bool neg,.string (xQ s pos),.slice none 0 0,.int IntKind.i64 ↑start,.int IntKind.i64 ↑(zF s pos).snd.fst,.int IntKind.i64 0,.int IntKind.i64 0,.int IntKind.i64 0,.int IntKind.i64 0] 221)).drew).ownsRow (b+1) 221 10 (Value.slice am ms.length kJ) ms.length (za7 ms)):=aB.alloc _;have s2:Hid (∀ j u,([Value.int IntKind.i64 ↑num,.bool neg,.string (xQ s pos),.slice none 0 0,.int IntKind.i64 ↑start,.int IntKind.i64 ↑(zF s pos).snd.fst,.int IntKind.i64 0,.int IntKind.i64 0,.int IntKind.i64 0,.int IntKind.i64 0]:V8)[j]?=some u->((w6.alloc (Obj.cells #[.int IntKind.i64 ↑num,.bool neg,.string (xQ s pos),.slice none 0 0,.int IntKind.i64 ↑start,.int IntKind.i64 ↑(zF s pos).snd.fst,.int IntKind.i64 0,.int IntKind.i64 0,.int IntKind.i64 0,.int IntKind.i64 0] 221)).drew).cell? ((⟨w6.heap.size,0,none⟩:Addr).add j)=some u):=World.news_of_block (heap_alloc_new w6 _);have s3:Hid (∀ u∈([Value.int IntKind.i64 ↑num,.bool neg,.string (xQ s pos),.slice none 0 0,.int IntKind.i64 ↑start,.int IntKind.i64 ↑(zF s pos).snd.fst,.int IntKind.i64 0,.int IntKind.i64 0,.int IntKind.i64 0,.int IntKind.i64 0]:V8),u.oneCell'=true):=z3p ⟨num,neg,xQ s pos,[],start,(zF s pos).2.1,λ _=>0⟩ none 0 0
 have s4:Hid (ms.length+1<=maxLen):=by show _<=_;unfold maxLen;omega
 have s5:Hid ((ms.length+1)*104<=140737488355328):=by show _<=_;omega
 have s6:Hid (b+1<=((w6.alloc (Obj.cells #[.int IntKind.i64 ↑num,.bool neg,.string (xQ s pos),.slice none 0 0,.int IntKind.i64 ↑start,.int IntKind.i64 ↑(zF s pos).snd.fst,.int IntKind.i64 0,.int IntKind.i64 0,.int IntKind.i64 0,.int IntKind.i64 0] 221)).drew).heap.size):=by show _<=_;have:=h7.dx.lt;simp;omega
 have hW:∀ k,k<w6.heap.size->((w6.alloc (Obj.cells #[.int IntKind.i64 ↑num,.bool neg,.string (xQ s pos),.slice none 0 0,.int IntKind.i64 ↑start,.int IntKind.i64 ↑(zF s pos).snd.fst,.int IntKind.i64 0,.int IntKind.i64 0,.int IntKind.i64 0,.int IntKind.i64 0] 221)).drew).heap[k]?=w6.heap[k]?:=λ k hk=>((zK.refl [] w6).alloc _).block k hk (by simp)
 have hS:w6.heap.size<=((w6.alloc (Obj.cells #[.int IntKind.i64 ↑num,.bool neg,.string (xQ s pos),.slice none 0 0,.int IntKind.i64 ↑start,.int IntKind.i64 ↑(zF s pos).snd.fst,.int IntKind.i64 0,.int IntKind.i64 0,.int IntKind.i64 0,.int IntKind.i64 0] 221)).drew).heap.size:=((zK.refl [] w6).alloc _).size;have Df:w6.ownsRow w.heap.size 191 1 (.slice none 0 0) ([]:List (Bool × B8)).length (xH []):=World.ownsRow_nil _ _ _ _;have s8:=zC (λ (w5:W8) (g cap:Nat) (hg:((w6.alloc (Obj.cells #[.int IntKind.i64 ↑num,.bool neg,.string (xQ s pos),.slice none 0 0,.int IntKind.i64 ↑start,.int IntKind.i64 ↑(zF s pos).snd.fst,.int IntKind.i64 0,.int IntKind.i64 0,.int IntKind.i64 0,.int IntKind.i64 0] 221)).drew).grownBy w5 (Value.slice am ms.length kJ).ownBlock) (ay:w5.ownsRow (b+1) 221 10 (.slice (some ⟨g,0,none⟩) (ms.length+1) cap) (ms.length+1) (za7 ms++[Value.int IntKind.i64 ↑num,.bool neg,.string (xQ s pos),.slice none 0 0,.int IntKind.i64 ↑start,.int IntKind.i64 ↑(zF s pos).snd.fst,.int IntKind.i64 0,.int IntKind.i64 0,.int IntKind.i64 0,.int IntKind.i64 0]))=>z3o (v':=.slice (some ⟨g,0,none⟩) (ms.length+1) cap) h7 sU (zA lf) Df hW hS rfl rfl rfl hg ay);have h7l:=h7.mc.lt;have nH:=h7.dx.lt;clear hW hS aB sU Df xp;go_wp2_with fail
 go_region_law (refine step_append_lies _ rfl (.tmp 41) (.tmp 43) 98 rfl (b+1) 221 i0 (.agg #[.int .i64 0,.bool false,.string { data:=#[] },.slice none 0 0,.int .i64 0,.int .i64 0,.int .i64 0,.int .i64 0,.int .i64 0,.int .i64 0]) 10 104 Tryz.underlying98 hi bL aY bg rfl (by decide) (Value.slice am ms.length kJ) ms.length (za7 ms) (by simp[Act.eval]) (zA s1) ⟨w6.heap.size,0,none⟩ 1 1 [Value.int IntKind.i64 ↑num,.bool neg,.string (xQ s pos),.slice none 0 0,.int IntKind.i64 ↑start,.int IntKind.i64 ↑(zF s pos).snd.fst,.int IntKind.i64 0,.int IntKind.i64 0,.int IntKind.i64 0,.int IntKind.i64 0] (by simp[Act.eval]) rfl (zA s2) (zA s3) (by decide) (zA s4) (zA s5) (zA s6) _ rfl ?_;intro g cap w5 aq aU bW hlt5;obtain⟨e1,e2,e3,e4,e5,e6,e7⟩:=zA s8 w5 g cap aU aq;have z5:=e7.c5;have zf:=e7.fz 5)
 all_goals
  obtain⟨L6,L7,L8,L9⟩:=e5;have m2:=e6.c2;have m3:=e6.c3;have ml:=e6.lt;clear s1 s2 s3 s4 s5 s6 s8 x0 x1 x2 x3 x4 x5 x6 xf y0 y1 y2 y3 r5 z5 zf h7;go_wp2_with fail;obtain⟨q0,q1⟩:=yd6 (RA.mk L6 L7 L8 L9) (.string (xQ s pos)) (.slice none 0 0);have kk:=zby (w5.setCell ⟨b,5,none⟩ (.slice (some ⟨g,0,none⟩) (ms.length+1) cap)) w.heap.size (.string (xQ s pos)) (.slice none 0 0);refine bodyPost_ret (v:=.tuple #[.agg #[.string (xQ s pos),.slice none 0 0],.bool true]) (by simp[results,Tryz.results98,go_sem,q0,q1]) rfl ⟨_,_,rfl,?_,e2.kept kk (by simp;omega),?_,?_,λ k e=>?_⟩
  ·exact (e1.setCell (.inr L9) _).setCell (.inr L9) _
  ·refine zuk e3 kk (λ k e=>?_) (λ x hx k e=>?_)
   ·rcases bW with h1 | h1
    ·have:=zA lf g h1;injection e with e;simp only at e;omega
    ·injection e with e;simp only at e;simp at h1;omega
   ·rcases List.mem_append.1 hx with hx | hx
    ·have:=zA OV x hx k e;omega
    ·simp at hx;subst hx;cases e
  ·exact World.ownsRow_nil _ _ _ _
  ·injection e with e
   simp only at e;subst e;rcases bW with h1 | h1
   ·exact .inl h1
   ·refine .inr ?_;simp at h1;omega
end
section
open Go.RowKit
theorem z34 (w:W8)(b:Nat)(s:B8)(pos num:Nat)(mv:Value)(neg:Bool)(start:Nat)(ms:List (xU × Value))(h:dT w b s pos num mv)(gU:ey w (b+1) mv ms)(aJ:pos<=s.size)(hs:s.size<=2000000)(hk:(zF s pos).1=2)(my:(zF s (zF s pos).2.2).1=5)(FP:(yB s 4 (zF s (zF s pos).2.2).2.2 [] (λ _=>0)).1=false):
  Calls Tryz.prog 98 #[.pointer (some ⟨b,0,none⟩),.bool neg,.int .i64 start] w λ e w'=>e=.returned (.tuple #[.agg #[.string { data:=#[] },.slice none 0 0],.bool false])/\zK [b] w w'/\dT w' b s (yB s 4 (zF s (zF s pos).2.2).2.2 [] (λ _=>0)).2.1 num mv:=by
 have bM:s.size<=maxLen:=by unfold maxLen;omega
 have bn:((zF s pos).1==2)=true:=by rw[hk];rfl
 have Ak:((zF s (zF s pos).2.2).1==5)=true:=by rw[my];rfl
 have ht:yM s pos 2=(zF s pos).2.2:=by unfold yM;rw[if_pos bn]
 have ED:yM s (zF s pos).2.2 5=(zF s (zF s pos).2.2).2.2:=by unfold yM;rw[if_pos Ak]
 have HT:=zC ht;have Fz:=zC ED;have bI:=(xT s pos aJ).2;have eZ:=(xT s (zF s pos).2.2 bI).2;have h0:=pM.start neg start h aJ;obtain⟨am,kJ,rfl⟩:=zD gU.row;obtain⟨aH,c0,c1,c2,c3,c4,c5,fz⟩:=h;clear hk ht ED my;go_enter Tryz.func98,Tryz.ntmps98;go_wp2_with fail
 go_region
 clear c0 c1 c2 c3 c4 c5 fz;go_wp2_with fail;refine (ze0 s pos num _ b _ h0.dx aJ hs).mono ?_;rintro e w2 ⟨rfl,aK⟩;have h2:=h0.same aK;have d2:=h2.mc.c2;have df:=h2.mc.fz 2;have h3:=h2.pred (xQ s pos);have HI:=zC h3;clear h0 aK h2 h3;go_wp2_with fail;refine (xI s pos num _ 2 b _ (zA HI).dx aJ bM).mono ?_;rintro e w4 ⟨rfl,pC,il⟩;rw[zA HT] at il;have h5:=(zA HI).call pC il bI;clear HI pC il d2 df;go_wp2_with fail;refine (xI s (zF s pos).2.2 num _ 5 b _ h5.dx bI bM).mono ?_;rintro e w6 ⟨rfl,Da,uz⟩;rw[zA Fz] at uz;have h7:=h5.call Da uz eZ;clear h5 Da uz;have zo:b≠w.heap.size+1:=by have:=h7.bw;omega
 go_wp2_with fail;refine (zs5 w6 b (w.heap.size+1) s _ num _ num neg _ start (zF s pos).2.1 _ h7.dx h7.mc zo eZ hs).mono ?_;rintro e w8 ⟨rfl,tv,hT⟩;generalize M0:yB s 4 (zF s (zF s pos).2.2).2.2 [] (λ _=>0)=PP at *;obtain⟨ok,p3,ts,pl⟩:=PP;simp only at hT;obtain⟨br,bD,rfl⟩:=zD hT.own;have QX:w.heap.size+1<w6.heap.size:=h7.mc.lt;have h8:pM w b s num (.slice am ms.length kJ) neg start (zF s pos).2.1 (xQ s pos) (.slice br ts.length bD) pl p3 w8:=by
  refine⟨hT.dx,hT.hp,hT.mc,h7.ra.kept hT.kept (by simp;have:=h7.bw;omega),?_,h7.bw⟩;have k1:zK [b,w.heap.size+1] w w6:=h7.kept.mono (by simp);exact (k1.trans hT.kept).mono (by simp)
 have Ns:w8.ownsRow w.heap.size 191 1 (.slice br ts.length bD) ts.length (xH ts):=zG hT.own (by omega);have MK:=zC (λ g (e:(Value.slice br ts.length bD).ownBlock=some g)=>(hT.own.lt g e).1);clear hT h7;have bR:ok=false:=FP;subst bR;obtain⟨L6,L7,L8,L9⟩:=h8.ra;clear Ns MK;go_wp2_with fail;obtain⟨q0,q1⟩:=yd6 h8.ra (.string { data:=#[] }) (.slice none 0 0);refine bodyPost_ret (v:=.tuple #[.agg #[.string { data:=#[] },.slice none 0 0],.bool false]) (by simp[results,Tryz.results98,go_sem,q0,q1]) rfl ⟨rfl,?_,?_⟩
 ·exact (h8.kept.setCell (.inr L9) _).setCell (.inr L9) _
 ·rw[M0];exact h8.dx.kept (zby w8 w.heap.size (.string { data:=#[] }) (.slice none 0 0)) (by simp;omega)
end
section
open Go.RowKit
theorem z35 (w:W8)(b:Nat)(s:B8)(pos num:Nat)(mv:Value)(neg:Bool)(start:Nat)(ms:List (xU × Value))(h:dT w b s pos num mv)(gU:ey w (b+1) mv ms)(bh:ms.length<=1000)(aJ:pos<=s.size)(hs:s.size<=2000000)(hk:(zF s pos).1=2)(my:(zF s (zF s pos).2.2).1=5)(FP:(yB s 4 (zF s (zF s pos).2.2).2.2 [] (λ _=>0)).1=true):
  Calls Tryz.prog 98 #[.pointer (some ⟨b,0,none⟩),.bool neg,.int .i64 start] w λ e w'=>∃ tv kq,e=.returned (.tuple #[.agg #[.string (xQ s pos),tv],.bool true])/\zK (b::mv.ownBlock.toList) w w'/\dT w' b s (yB s 4 (zF s (zF s pos).2.2).2.2 [] (λ _=>0)).2.1 num kq/\ey w' (b+1) kq (ms++[(⟨num,neg,xQ s pos,(yB s 4 (zF s (zF s pos).2.2).2.2 [] (λ _=>0)).2.2.1,start,(zF s pos).2.1,(yB s 4 (zF s (zF s pos).2.2).2.2 [] (λ _=>0)).2.2.2⟩,tv)])/\w'.ownsRow w.heap.size 191 1 tv (yB s 4 (zF s (zF s pos).2.2).2.2 [] (λ _=>0)).2.2.1.length (xH (yB s 4 (zF s (zF s pos).2.2).2.2 [] (λ _=>0)).2.2.1) /\(∀ k,kq.ownBlock=some k->mv.ownBlock=some k\/w.heap.size<=k):=by
 obtain⟨i0,hi,bL,aY,bg⟩:=info_parts z2o;have bM:s.size<=maxLen:=by unfold maxLen;omega
 have bn:((zF s pos).1==2)=true:=by rw[hk];rfl
 have Ak:((zF s (zF s pos).2.2).1==5)=true:=by rw[my];rfl
 have ht:yM s pos 2=(zF s pos).2.2:=by unfold yM;rw[if_pos bn]
 have ED:yM s (zF s pos).2.2 5=(zF s (zF s pos).2.2).2.2:=by unfold yM;rw[if_pos Ak]
 have HT:=zC ht;have Fz:=zC ED;have bI:=(xT s pos aJ).2;have eZ:=(xT s (zF s pos).2.2 bI).2;have h0:=pM.start neg start h aJ;obtain⟨am,kJ,rfl⟩:=zD gU.row;have OV:=zC (λ (x:xU × Value) (hx:x∈ms) k (e:x.2.ownBlock=some k)=>((gU.each x hx).lt k e).2);have lf:=zC (λ k (e:(Value.slice am ms.length kJ).ownBlock=some k)=>(gU.row.lt k e).2);obtain⟨aH,c0,c1,c2,c3,c4,c5,fz⟩:=h;clear hk ht ED my;go_enter Tryz.func98,Tryz.ntmps98;go_wp2_with fail
 go_region
 clear c0 c1 c2 c3 c4 c5 fz;go_wp2_with fail;refine (ze0 s pos num _ b _ h0.dx aJ hs).mono ?_;rintro e w2 ⟨rfl,aK⟩;have h2:=h0.same aK;have d2:=h2.mc.c2;have df:=h2.mc.fz 2;have h3:=h2.pred (xQ s pos);have HI:=zC h3;clear h0 aK h2 h3;go_wp2_with fail;refine (xI s pos num _ 2 b _ (zA HI).dx aJ bM).mono ?_;rintro e w4 ⟨rfl,pC,il⟩;rw[zA HT] at il;have h5:=(zA HI).call pC il bI;clear HI pC il d2 df;go_wp2_with fail;refine (xI s (zF s pos).2.2 num _ 5 b _ h5.dx bI bM).mono ?_;rintro e w6 ⟨rfl,Da,uz⟩;rw[zA Fz] at uz;have h7:=h5.call Da uz eZ;clear h5 Da uz;have zo:b≠w.heap.size+1:=by have:=h7.bw;omega
 go_wp2_with fail;refine (zs5 w6 b (w.heap.size+1) s _ num _ num neg _ start (zF s pos).2.1 _ h7.dx h7.mc zo eZ hs).mono ?_;rintro e w8 ⟨rfl,tv,hT⟩;generalize M0:yB s 4 (zF s (zF s pos).2.2).2.2 [] (λ _=>0)=PP at *;obtain⟨ok,p3,ts,pl⟩:=PP;simp only at hT;obtain⟨br,bD,rfl⟩:=zD hT.own;have QX:w.heap.size+1<w6.heap.size:=h7.mc.lt;have h8:pM w b s num (.slice am ms.length kJ) neg start (zF s pos).2.1 (xQ s pos) (.slice br ts.length bD) pl p3 w8:=by
  refine⟨hT.dx,hT.hp,hT.mc,h7.ra.kept hT.kept (by simp;have:=h7.bw;omega),?_,h7.bw⟩;have k1:zK [b,w.heap.size+1] w w6:=h7.kept.mono (by simp);exact (k1.trans hT.kept).mono (by simp)
 have Ns:w8.ownsRow w.heap.size 191 1 (.slice br ts.length bD) ts.length (xH ts):=zG hT.own (by omega);have MK:=zC (λ g (e:(Value.slice br ts.length bD).ownBlock=some g)=>(hT.own.lt g e).1);clear hT h7;have bR:ok=true:=FP;subst bR;have Jo:=zC M0;clear M0;have sU:ey w8 (b+1) (.slice am ms.length kJ) ms:=gU.kept h8.kept (by simp);obtain⟨x0,x1,x2,x3,x4,x5,x6,xp,xf⟩:=h8.mc;have y0:=xp 0 (by omega);have y1:=xp 1 (by omega);have y2:=xp 2 (by omega);have y3:=xp 3 (by omega);have r5:=h8.dx.c5;have aB:=sU.row;have s1:Hid (((w8.alloc (Obj.cells #[.int IntKind.i64 ↑num,.bool neg,.string (xQ s pos),.slice br ts.length bD,.int IntKind.i64 ↑start,.int IntKind.i64 ↑(zF s pos).snd.fst,.int IntKind.i64 ↑(pl 0),.int IntKind.i64 ↑(pl 1),.int IntKind.i64 ↑(pl 2),.int IntKind.i64 ↑(pl 3)] 221)).drew).ownsRow (b+1) 221 10 (Value.slice am ms.length kJ) ms.length (za7 ms)):=aB.alloc _;have s2:Hid (∀ j u,([Value.int IntKind.i64 ↑num,.bool neg,.string (xQ s pos),.slice br ts.length bD,.int IntKind.i64 ↑start,.int IntKind.i64 ↑(zF s pos).snd.fst,.int IntKind.i64 ↑(pl 0),.int IntKind.i64 ↑(pl 1),.int IntKind.i64 ↑(pl 2),.int IntKind.i64 ↑(pl 3)]:V8)[j]?=some u->((w8.alloc (Obj.cells #[.int IntKind.i64 ↑num,.bool neg,.string (xQ s pos),.slice br ts.length bD,.int IntKind.i64 ↑start,.int IntKind.i64 ↑(zF s pos).snd.fst,.int IntKind.i64 ↑(pl 0),.int IntKind.i64 ↑(pl 1),.int IntKind.i64 ↑(pl 2),.int IntKind.i64 ↑(pl 3)] 221)).drew).cell? ((⟨w8.heap.size,0,none⟩:Addr).add j)=some u):=World.news_of_block (heap_alloc_new w8 _);have s3:Hid (∀ u∈([Value.int IntKind.i64 ↑num,.bool neg,.string (xQ s pos),.slice br ts.length bD,.int IntKind.i64 ↑start,.int IntKind.i64 ↑(zF s pos).snd.fst,.int IntKind.i64 ↑(pl 0),.int IntKind.i64 ↑(pl 1),.int IntKind.i64 ↑(pl 2),.int IntKind.i64 ↑(pl 3)]:V8),u.oneCell'=true):=z3p ⟨num,neg,xQ s pos,ts,start,(zF s pos).2.1,pl⟩ br ts.length bD;have s4:Hid (ms.length+1<=maxLen):=by show _<=_;unfold maxLen;omega
 have s5:Hid ((ms.length+1)*104<=140737488355328):=by show _<=_;omega
 have s6:Hid (b+1<=((w8.alloc (Obj.cells #[.int IntKind.i64 ↑num,.bool neg,.string (xQ s pos),.slice br ts.length bD,.int IntKind.i64 ↑start,.int IntKind.i64 ↑(zF s pos).snd.fst,.int IntKind.i64 ↑(pl 0),.int IntKind.i64 ↑(pl 1),.int IntKind.i64 ↑(pl 2),.int IntKind.i64 ↑(pl 3)] 221)).drew).heap.size):=by show _<=_;have:=h8.dx.lt;simp;omega
 have hW:∀ k,k<w8.heap.size->((w8.alloc (Obj.cells #[.int IntKind.i64 ↑num,.bool neg,.string (xQ s pos),.slice br ts.length bD,.int IntKind.i64 ↑start,.int IntKind.i64 ↑(zF s pos).snd.fst,.int IntKind.i64 ↑(pl 0),.int IntKind.i64 ↑(pl 1),.int IntKind.i64 ↑(pl 2),.int IntKind.i64 ↑(pl 3)] 221)).drew).heap[k]?=w8.heap[k]?:=λ k hk=>((zK.refl [] w8).alloc _).block k hk (by simp)
 have hS:w8.heap.size<=((w8.alloc (Obj.cells #[.int IntKind.i64 ↑num,.bool neg,.string (xQ s pos),.slice br ts.length bD,.int IntKind.i64 ↑start,.int IntKind.i64 ↑(zF s pos).snd.fst,.int IntKind.i64 ↑(pl 0),.int IntKind.i64 ↑(pl 1),.int IntKind.i64 ↑(pl 2),.int IntKind.i64 ↑(pl 3)] 221)).drew).heap.size:=((zK.refl [] w8).alloc _).size;have s8:=zC (λ (w5:W8) (g cap:Nat) (hg:((w8.alloc (Obj.cells #[.int IntKind.i64 ↑num,.bool neg,.string (xQ s pos),.slice br ts.length bD,.int IntKind.i64 ↑start,.int IntKind.i64 ↑(zF s pos).snd.fst,.int IntKind.i64 ↑(pl 0),.int IntKind.i64 ↑(pl 1),.int IntKind.i64 ↑(pl 2),.int IntKind.i64 ↑(pl 3)] 221)).drew).grownBy w5 (Value.slice am ms.length kJ).ownBlock) (ay:w5.ownsRow (b+1) 221 10 (.slice (some ⟨g,0,none⟩) (ms.length+1) cap) (ms.length+1) (za7 ms++[Value.int IntKind.i64 ↑num,.bool neg,.string (xQ s pos),.slice br ts.length bD,.int IntKind.i64 ↑start,.int IntKind.i64 ↑(zF s pos).snd.fst,.int IntKind.i64 ↑(pl 0),.int IntKind.i64 ↑(pl 1),.int IntKind.i64 ↑(pl 2),.int IntKind.i64 ↑(pl 3)]))=>z3o (v':=.slice (some ⟨g,0,none⟩) (ms.length+1) cap) h8 sU (zA lf) Ns hW hS rfl rfl rfl hg ay);have h8l:=h8.mc.lt;have nH:=h8.dx.lt;clear hW hS aB sU xp Ns;go_wp2_with fail
 go_region_law (refine step_append_lies _ rfl (.tmp 41) (.tmp 43) 98 rfl (b+1) 221 i0 (.agg #[.int .i64 0,.bool false,.string { data:=#[] },.slice none 0 0,.int .i64 0,.int .i64 0,.int .i64 0,.int .i64 0,.int .i64 0,.int .i64 0]) 10 104 Tryz.underlying98 hi bL aY bg rfl (by decide) (Value.slice am ms.length kJ) ms.length (za7 ms) (by simp[Act.eval]) (zA s1) ⟨w8.heap.size,0,none⟩ 1 1 [Value.int IntKind.i64 ↑num,.bool neg,.string (xQ s pos),.slice br ts.length bD,.int IntKind.i64 ↑start,.int IntKind.i64 ↑(zF s pos).snd.fst,.int IntKind.i64 ↑(pl 0),.int IntKind.i64 ↑(pl 1),.int IntKind.i64 ↑(pl 2),.int IntKind.i64 ↑(pl 3)] (by simp[Act.eval]) rfl (zA s2) (zA s3) (by decide) (zA s4) (zA s5) (zA s6) _ rfl ?_;intro g cap w5 aq aU bW hlt5;obtain⟨e1,e2,e3,e4,e5,e6,e7⟩:=zA s8 w5 g cap aU aq;have z5:=e7.c5;have zf:=e7.fz 5)
 all_goals
  obtain⟨L6,L7,L8,L9⟩:=e5;have m2:=e6.c2;have m3:=e6.c3;have ml:=e6.lt;clear s1 s2 s3 s4 s5 s6 s8 x0 x1 x2 x3 x4 x5 x6 xf y0 y1 y2 y3 r5 z5 zf h8;go_wp2_with fail;obtain⟨q0,q1⟩:=yd6 (RA.mk L6 L7 L8 L9) (.string (xQ s pos)) (.slice br ts.length bD);have kk:=zby (w5.setCell ⟨b,5,none⟩ (.slice (some ⟨g,0,none⟩) (ms.length+1) cap)) w.heap.size (.string (xQ s pos)) (.slice br ts.length bD);refine bodyPost_ret (v:=.tuple #[.agg #[.string (xQ s pos),.slice br ts.length bD],.bool true]) (by simp[results,Tryz.results98,go_sem,q0,q1]) rfl ⟨_,_,rfl,?_,by rw[zA Jo];exact e2.kept kk (by simp;omega),?_,?_,λ k e=>?_⟩
  ·exact (e1.setCell (.inr L9) _).setCell (.inr L9) _
  ·rw[zA Jo];refine zuk e3 kk (λ k e=>?_) (λ x hx k e=>?_)
   ·rcases bW with h1 | h1
    ·have:=zA lf g h1;injection e with e;simp only at e;omega
    ·injection e with e;simp only at e;simp at h1;omega
   ·rcases List.mem_append.1 hx with hx | hx
    ·have:=zA OV x hx k e;omega
    ·simp at hx;subst hx;have:=zA MK k e;omega
  ·rw[zA Jo];exact j8 e4 kk (λ k e=>by have:=zA MK k e;omega)
  ·injection e with e
   simp only at e;subst e;rcases bW with h1 | h1
   ·exact .inl h1
   ·refine .inr ?_;simp at h1;omega
end
section
open Go.RowKit
def z57 (w:W8)(b:Nat)(s:B8)(num:Nat)(mv:Value)(neg:Bool)(start place:Nat)(ms:List (xU × Value))(r:yd2)(e:Ending)(w':W8):Prop:=
 match r with
 | .no p=>e=.returned (.tuple #[.agg #[.string { data:=#[] },.slice none 0 0],.bool false])/\zK [b] w w'/\dT w' b s p num mv
 | .yes p pd ts pl=>∃ tv kq,e=.returned (.tuple #[.agg #[.string pd,tv],.bool true])/\zK (b::mv.ownBlock.toList) w w'/\dT w' b s p num kq/\ey w' (b+1) kq (ms++[(⟨num,neg,pd,ts,start,place,pl⟩,tv)])/\w'.ownsRow w.heap.size 191 1 tv ts.length (xH ts)/\(∀ k,kq.ownBlock=some k->mv.ownBlock=some k\/w.heap.size<=k)
theorem zmf (w:W8)(b:Nat)(s:B8)(pos num:Nat)(mv:Value)(neg:Bool)(start:Nat)(ms:List (xU × Value))(h:dT w b s pos num mv)(gU:ey w (b+1) mv ms)(bh:ms.length<=1000)(aJ:pos<=s.size)(hs:s.size<=2000000):
  Calls Tryz.prog 98 #[.pointer (some ⟨b,0,none⟩),.bool neg,.int .i64 start] w (z57 w b s num mv neg start (zF s pos).2.1 ms (vD s pos)):=by
 by_cases hk:(zF s pos).1=2
 ·by_cases my:(zF s (zF s pos).2.2).1=5
  ·cases hP:(yB s 4 (zF s (zF s pos).2.2).2.2 [] (λ _=>0)).1 with
   | false=>
    have e:vD s pos=.no (yB s 4 (zF s (zF s pos).2.2).2.2 [] (λ _=>0)).2.1:=(by unfold vD;rw[if_pos hk,if_pos my,if_neg (by rw[hP];decide)]);rw[e];exact z34 w b s pos num mv neg start ms h gU aJ hs hk my hP
   | true=>
    have e:vD s pos=.yes (yB s 4 (zF s (zF s pos).2.2).2.2 [] (λ _=>0)).2.1 (xQ s pos) (yB s 4 (zF s (zF s pos).2.2).2.2 [] (λ _=>0)).2.2.1 (yB s 4 (zF s (zF s pos).2.2).2.2 [] (λ _=>0)).2.2.2:=(by unfold vD;rw[if_pos hk,if_pos my,if_pos hP]);rw[e];exact z35 w b s pos num mv neg start ms h gU bh aJ hs hk my hP
  ·have e:vD s pos=.yes (zF s pos).2.2 (xQ s pos) [] (λ _=>0):=(by unfold vD;rw[if_pos hk,if_neg my]);rw[e];exact zy2 w b s pos num mv neg start ms h gU bh aJ hs hk my
 ·have e:vD s pos=.no pos:=by unfold vD;rw[if_neg hk]
  rw[e];exact z7y w b s pos num mv neg start h aJ hs hk
end
section
open Go.RowKit
variable {fr:Nat × Nat} {cur:Array Value} {n0 n base:Nat} {e0:TypeId} {w:W8}
theorem zmq {e:TypeId}{size:Nat}{v:Value}{xs:V8}(h:w.ownsRow base e size v n xs)(hb:w.heap[n0]?=some (.cells cur e0 fr))(bF:e≠e0):∀ g,v.ownBlock=some g->g≠n0:=by
 intro g hg hgn;subst hgn;rcases h.2 with⟨rfl,_⟩ | ⟨g',cap,Pe,rfl,_,bS,_⟩
 ·cases hg
 ·injection hg with hg
  simp only at hg;subst hg;rw[hb] at bS;injection bS with bS
  injection bS with _ bS _
  exact bF bS.symm
theorem z3n {w':W8}{mv:Value}{ms:List (xU × Value)}(h:ey w base mv ms)(hb:w.heap[n0]?=some (.cells cur e0 fr))(h1:221≠e0)(h2:191≠e0)(k:zK [n0] w w'):ey w' base mv ms:=
 zuk h k (zmq h.row hb h1) (λ x hx=>zmq (h.each x hx) hb h2)
def yab (w:W8)(b:Nat)(s:B8)(num:Nat)(mv:Value)(neg:Bool)(start place:Nat)(ms:List (xU × Value))(r:yd2)(e:Ending)(w':W8):Prop:=
 match r with
 | .no p=>e=.returned (.tuple #[.agg #[.bool neg,.string { data:=#[] },.slice none 0 0],.bool false])/\zK [b] w w'/\dT w' b s p num mv
 | .yes p pd ts pl=>∃ tv kq,e=.returned (.tuple #[.agg #[.bool neg,.string pd,tv],.bool true])/\zK (b::mv.ownBlock.toList) w w'/\dT w' b s p num kq/\ey w' (b+1) kq (ms++[(⟨num,neg,pd,ts,start,place,pl⟩,tv)])/\w'.ownsRow w.heap.size 191 1 tv ts.length (xH ts)/\(∀ k,kq.ownBlock=some k->mv.ownBlock=some k\/w.heap.size<=k)
theorem zB {c:Array Value}{t:TypeId}(h:w.heap[n]?=some (.cells c t (0,0)))(j:Nat):w.cell? ⟨n,j,none⟩=c[j]?/\w.frozen? ⟨n,j,none⟩=false:=by
 unfold World.cell? World.frozen?;simp[h]
theorem zyo (w1:W8)(n:Nat)(v0 v1 v2:Value):zK [n] w1 (((w1.setCell ⟨n,0,none⟩ v0).setCell ⟨n,1,none⟩ v1).setCell ⟨n,2,none⟩ v2):=
 (((zK.refl [n] w1).setCell (by simp) _).setCell (by simp) _).setCell (by simp) _
theorem zK.dQ {B:List Nat}{w1 w2:W8}(h:zK B w w1)(k:zK [w.heap.size] w1 w2):zK B w w2:=
 ⟨k.os.trans h.os,k.tape.trans h.tape,k.output.trans h.output,Nat.le_trans h.size k.size,λ i hi hn=>(k.block i (Nat.lt_of_lt_of_le hi h.size) (by simp;omega)).trans (h.block i hi hn)⟩
theorem z76 (w:W8)(b:Nat)(s:B8)(pos num:Nat)(mv:Value)(ms:List (xU × Value))(h:dT w b s pos num mv)(gU:ey w (b+1) mv ms)(bh:ms.length<=1000)(aJ:pos<=s.size)(hs:s.size<=2000000):
  Calls Tryz.prog 175 #[.pointer (some ⟨b,0,none⟩)] w (yab w b s num mv ((zF s pos).1==4) (zF s pos).2.1 (zF s (yM s pos 4)).2.1 ms (vD s (yM s pos 4))):=by
 have bM:s.size<=maxLen:=by unfold maxLen;omega
 have h0:=h.kept ((zK.refl [] w).alloc (.cells #[.bool false,.string { data:=#[] },.slice none 0 0] 183)) (by simp);have Ax:=gU.kept ((zK.refl [] w).alloc (.cells #[.bool false,.string { data:=#[] },.slice none 0 0] 183)) (by simp);have bI:yM s pos 4<=s.size:=by unfold yM;split;exact (xT s pos aJ).2;exact aJ
 have lf:=zC (λ k (e:mv.ownBlock=some k)=>(gU.row.lt k e).2);obtain⟨aH,c0,c1,c2,c3,c4,c5,fz⟩:=h;have nj:(w.alloc (.cells #[.bool false,.string { data:=#[] },.slice none 0 0] 183)).heap[w.heap.size]?=some (.cells #[.bool false,.string { data:=#[] },.slice none 0 0] 183 (0,0)):=heap_alloc_new w _;have mD:=zC nj;clear nj;go_enter Tryz.func175,Tryz.ntmps175;go_wp2_with fail;refine (xI s pos num mv 4 b _ h0 aJ bM).mono ?_;rintro e w1 ⟨rfl,aW,jm⟩;have Gn:=Ax.kept aW (by simp);clear c0 c1 c2 c3 c4 c5 fz h0 Ax;go_wp2_with fail;refine (zmf w1 b s (yM s pos 4) num mv _ _ ms jm Gn bh bI hs).mono ?_;intro e w2 hpost
 cases hr:vD s (yM s pos 4) with
 | no p=>
  rw[hr] at hpost;obtain⟨rfl,bn,ik⟩:=hpost;have lz:=aW.trans bn;have aK:=(lz.block w.heap.size (by simp) (by simp;omega)).trans (zA mD);obtain⟨a0,f0⟩:=zB aK 0;obtain⟨a1,f1⟩:=zB aK 1;obtain⟨a2,f2⟩:=zB aK 2;have mz:w.heap.size<w2.heap.size:=by have:=lz.size;simp at this;omega
  have HR:=zC hr;clear hr aW jm Gn bn;go_wp2_with fail;obtain⟨q0,q1,q2⟩:=z93 a0 a1 a2 (.bool ((zF s pos).1==4)) (.string { data:=#[] }) (.slice none 0 0);have q0:=qY q0;have q1:=qY q1;have q2:=qY q2;have k3:=(zyo w2 w.heap.size (.bool ((zF s pos).1==4)) (.string { data:=#[] }) (.slice none 0 0)).alloc (Obj.cells #[.string { data:=#[] },.slice none 0 0] 79);refine bodyPost_ret (v:=.tuple #[.agg #[.bool ((zF s pos).1==4),.string { data:=#[] },.slice none 0 0],.bool false]) (by simp[results,Tryz.results175,go_sem,q0,q1,q2]) rfl ?_;rw[zA HR];exact⟨rfl,(((zK.refl [b] w).alloc _).trans lz).dQ k3,ik.kept k3 (by simp;omega)⟩
 | yes p pd ts pl=>
  rw[hr] at hpost;obtain⟨tv,kq,rfl,bn,ik,dD,mA,oP⟩:=hpost;obtain⟨br,bD,rfl⟩:=zD mA;have lz:=(aW.mono (C:=b::mv.ownBlock.toList) (by simp)).trans bn
  have aK:=(lz.block w.heap.size (by simp) (by
   intro hm;rcases List.mem_cons.1 hm with hm | hm
   ·omega
   ·have:=zA lf w.heap.size (by simpa using hm);omega)).trans (zA mD)
  obtain⟨a0,f0⟩:=zB aK 0;obtain⟨a1,f1⟩:=zB aK 1;obtain⟨a2,f2⟩:=zB aK 2;have mz:w.heap.size<w2.heap.size:=by have:=lz.size;simp at this;omega
  have dY:w.heap.size<=w1.heap.size:=by have:=aW.size;simp at this;omega
  have HR:=zC hr;have ir:=zC aK;have WN:=zC oP;clear hr aW jm Gn bn aK oP;go_wp2_with fail;obtain⟨q0,q1,q2⟩:=z93 a0 a1 a2 (.bool ((zF s pos).1==4)) (.string pd) (.slice br ts.length bD);have q0:=qY q0;have q1:=qY q1;have q2:=qY q2;have k3:=(zyo w2 w.heap.size (.bool ((zF s pos).1==4)) (.string pd) (.slice br ts.length bD)).alloc (Obj.cells #[.string pd,.slice br ts.length bD] 79);refine bodyPost_ret (v:=.tuple #[.agg #[.bool ((zF s pos).1==4),.string pd,.slice br ts.length bD],.bool true]) (by simp[results,Tryz.results175,go_sem,q0,q1,q2]) rfl ?_;rw[zA HR];exact⟨_,_,rfl,(((zK.refl _ w).alloc _).trans lz).dQ k3,ik.kept k3 (by simp;omega),z3n dD (zA ir) (by decide) (by decide) k3,zG (j8 mA k3 (zmq mA (zA ir) (by decide))) dY,λ k e=>by rcases zA WN k e with h1 | h1;exact .inl h1;exact .inr (Nat.le_trans dY h1)⟩
end
end Go.Proofs.YtldkpahaocjdpaaGreat
