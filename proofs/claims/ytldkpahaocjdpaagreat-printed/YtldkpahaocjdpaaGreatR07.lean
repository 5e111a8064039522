/-
  The program's reader: terms, behind the bracket: the plain text's terms (ReadTermsS), their places laid into the mention.
-/
import Derived.Test.YtldkpahaocjdpaaGreatR06
set_option maxHeartbeats 16000000
set_option maxRecDepth 1000000
namespace Go.Proofs.YtldkpahaocjdpaaGreat
section
open Go.RowKit
theorem infoTermI:(Tryz.prog.info? 191).map (λ i=>(i.zero,i.size,i.bytes))=some (some .nilIface,1,16):=by kernel_rfl
theorem pt_cell (w1:W8)(v:Value):∀ j u,([v]:V8)[j]?=some u->(w1.alloc (.cells #[v] 191)).cell? ((⟨w1.heap.size,0,none⟩:Addr).add j)=some u:=by
 intro j u hj;have e:(⟨w1.heap.size,0,none⟩:Addr).add j=⟨w1.heap.size,j,none⟩:=by unfold Addr.add;split <;> simp_all
 rw[e,World.cell?_alloc_at _ _ _ _ rfl];simpa using hj
theorem pt_one (v:Bool)(t:B8):∀ u∈[tmVal v t],u.oneCell'=true:=by
 intro u hu;simp at hu;subst hu;rfl
theorem terms_any (w:W8)(b m:Nat)(s:B8)(pos num:Nat)(mv:Value)(rn:Nat)(neg:Bool)(pd:B8)(start place:Nat)(pl:Nat->Nat)(hr:dN w b s pos num mv)(hm:cX w m rn neg pd (.slice none 0 0) start place pl)(oi:b≠m)(bn:pos<=s.size)(hs:s.size<=2000000):
  Calls Tryz.prog 144 #[.pointer (some ⟨b,0,none⟩),.pointer (some ⟨m,0,none⟩)] w λ e w'=>e=.returned (.bool (ptermsS s 4 pos [] pl).1)/\∃ tv,fy w b m s num mv rn neg pd start place (ptermsS s 4 pos [] pl).2.2.1 (ptermsS s 4 pos [] pl).2.1 (ptermsS s 4 pos [] pl).2.2.2 tv w':=by
 obtain⟨i0,hi,dK,ir,bZ⟩:=info_parts infoTermI;have dQ:s.size<=maxLen:=by unfold maxLen;omega
 have h0:fy w b m s num mv rn neg pd start place [] pos pl (.slice none 0 0) w:=⟨hr,bn,hm,World.ownsRow_nil _ _ _ _,Kept.refl _ _,oi,hr.lt,hm.lt⟩;clear hr hm;go_enter Tryz.func144,Tryz.ntmps144;go_wp2_with fail
 go_loopg [5,6,7,8] 5 (λ gg i5 t6 ok7 i8 wr=>∃ (l:List (Bool × B8)) (p:Nat) (jW:Nat->Nat) (tv:Value),l.length<=4/\gg=5-l.length/\i8=.int .i64 l.length/\fy w b m s num mv rn neg pd start place l p jW tv wr/\ptermsS s 4 pos [] pl=ptermsS s (4-l.length) p l jW)
 exact⟨[],pos,pl,_,by simp,rfl,rfl,h0,rfl⟩
 case round=>
  clear h0;obtain⟨l,p,jW,tv,yK,dn,rfl,hinv,bj⟩:=hrel;have HF:=hide bj;clear bj;obtain⟨a0,BR,rfl⟩:=own_slice hinv.own
  by_cases hl:l.length<4
  ·have sr:(l.length:Int)<4:=(by omega);have iq:ptermsS s (4-l.length) p l jW=ptermsS s ((3-l.length)+1) p l jW:=(by congr 1;omega);have fS:=hide ((ad HF).trans (iq.trans (by rw[ptermsS])));obtain⟨JH,c0,c1,c2,c3,c4,c5,fz⟩:=hinv.dg;have KB:=hinv.mc.cp l.length hl;have KC:=hinv.mc.fz (6+l.length);have Az:=hinv.mw;have dP:=hinv.hp;have HI:=hide hinv;clear HF hinv iq;go_upto_region 4 with fail
   go_cut [] (λ wc=>fy w b m s num mv rn neg pd start place l p (dL jW l.length (ae s p).2.1) (.slice a0 l.length BR) wc)
   case first=>
    go_region
    all_goals
     go_wp2_with fail;go_meet
     case rel=>exact ((ad HI).place l.length (ae s p).2.1 hl).drew
   case rest=>
    have hinv:=hcut;clear hcut HI c0 c1 c2 c3 c4 c5 fz KB KC
    by_cases cN:(ae s p).1=2
    ·have hk:=cN;clear cN;have bK:=hide ((ad fS).trans (if_pos (Or.inl hk)));have vG:decide ((ae s p).1=3)=false:=(by rw[hk];rfl);go_wp2_with fail;refine (term_name s p num mv b _ hinv.dg dP hs hk).mono ?_;rintro e w1 ⟨rfl,de,ez⟩;have gG:=(scan_le s p dP).2;have cG:=hinv.call de ez gG;have d3:=cG.mc.c3;have fP:=cG.own;have C5:=cG.mc.lt;rw[vG] at bK;have G5:=hide hk;clear fS de ez hinv hk vG;unfold tmVal;simp only[if_false,Bool.false_eq_true];go_wp2_with (at_builtin;refine wpList_append_own _ rfl _ _ 77 rfl w.heap.size 191 i0 _ 1 16 Tryz.underlying77 hi dK ir bZ rfl (by decide) _ _ _ rfl (fP.alloc _) ⟨w1.heap.size,0,none⟩ 1 1 [tmVal false (rword s p)] rfl rfl (pt_cell w1 _) (pt_one _ _) (by unfold maxLen;omega) (by omega) (by have:=cG.kept.size;simp;omega) ?_);intro v5 w5 dm dz jv;clear jv;obtain⟨a5,gz,rfl⟩:=own_slice dm;obtain⟨eo,lZ⟩:=cG.append (false,rword s p) dm dz;have e3:=lZ.c3;have ef:=lZ.fz 3;clear dm dz d3 fP cG lZ;go_wp2_with fail;refine (rtake_any s _ num mv 7 b _ eo.dg gG dQ).mono ?_;rintro e w7 ⟨rfl,mD,jR⟩;have nG:=(scan_le s (ae s p).2.2 gG).2
     cases h7:((ae s (ae s p).2.2).1==7) with
     | true=>
      have oK:(ae s (ae s p).2.2).1=7:=eq_of_beq h7;have pH:rtake s (ae s p).2.2 7=(ae s (ae s p).2.2).2.2:=(by unfold rtake;rw[if_pos h7]);rw[pH] at jR;have dA:=eo.call mD jR nG;have dE:=hide ((ad bK).trans (if_pos oK));clear eo mD jR bK oK pH e3 ef;go_wp2_with fail;go_roundg (5-(l.length+1));exact⟨_,_,_,_,by simp;omega,by simp,by simp,dA,(ad dE).trans (by congr 1;first | (simp;done) | (simp;omega))⟩;omega
     | false=>
      have oK:¬ (ae s (ae s p).2.2).1=7:=(by intro e;rw[e] at h7;cases h7);have pH:rtake s (ae s p).2.2 7=(ae s p).2.2:=(by unfold rtake;rw[if_neg (by rw[h7];decide)]);rw[pH] at jR;have dA:=eo.call mD jR gG;have dE:=hide ((ad bK).trans (if_neg oK));clear eo mD jR bK oK pH e3 ef;go_wp2_with fail;refine (rtake_any s _ num mv 6 b _ dA.dg gG dQ).mono ?_;rintro e w8 ⟨rfl,so,oq⟩;have jN:=dA.call so oq (by unfold rtake;split;exact nG;exact gG);clear dA so oq;go_wp2_with fail;go_ret;refine⟨?_,_,by rw[ad dE];exact jN⟩;rw[ad dE]
      show Ending.returned (Value.bool ((ae s (ae s p).2.2).1==6))=Ending.returned (Value.bool (decide ((ae s (ae s p).2.2).1=6)))
      rw[Bool.eq_iff_iff.2 (by simp:(((ae s (ae s p).2.2).1==6)=true↔decide ((ae s (ae s p).2.2).1=6)=true))]
    ·by_cases fB:(ae s p).1=3
     ·have hk:=fB;clear fB cN;have bK:=hide ((ad fS).trans (if_pos (Or.inr hk)));have vG:decide ((ae s p).1=3)=true:=(by rw[hk];rfl);go_wp2_with fail;refine (term_var s p num mv b _ hinv.dg dP hs hk).mono ?_;rintro e w1 ⟨rfl,de,ez⟩;have gG:=(scan_le s p dP).2;have cG:=hinv.call de ez gG;have d3:=cG.mc.c3;have fP:=cG.own;have C5:=cG.mc.lt;rw[vG] at bK;have G5:=hide hk;clear fS de ez hinv hk vG;unfold tmVal;simp only[if_true];go_wp2_with (at_builtin;refine wpList_append_own _ rfl _ _ 77 rfl w.heap.size 191 i0 _ 1 16 Tryz.underlying77 hi dK ir bZ rfl (by decide) _ _ _ rfl (fP.alloc _) ⟨w1.heap.size,0,none⟩ 1 1 [tmVal true (rword s p)] rfl rfl (pt_cell w1 _) (pt_one _ _) (by unfold maxLen;omega) (by omega) (by have:=cG.kept.size;simp;omega) ?_);intro v5 w5 dm dz jv;clear jv;obtain⟨a5,gz,rfl⟩:=own_slice dm;obtain⟨eo,lZ⟩:=cG.append (true,rword s p) dm dz;have e3:=lZ.c3;have ef:=lZ.fz 3;clear dm dz d3 fP cG lZ;go_wp2_with fail;refine (rtake_any s _ num mv 7 b _ eo.dg gG dQ).mono ?_;rintro e w7 ⟨rfl,mD,jR⟩;have nG:=(scan_le s (ae s p).2.2 gG).2
      cases h7:((ae s (ae s p).2.2).1==7) with
      | true=>
       have oK:(ae s (ae s p).2.2).1=7:=eq_of_beq h7;have pH:rtake s (ae s p).2.2 7=(ae s (ae s p).2.2).2.2:=(by unfold rtake;rw[if_pos h7]);rw[pH] at jR;have dA:=eo.call mD jR nG;have dE:=hide ((ad bK).trans (if_pos oK));clear eo mD jR bK oK pH e3 ef;go_wp2_with fail;go_roundg (5-(l.length+1));exact⟨_,_,_,_,by simp;omega,by simp,by simp,dA,(ad dE).trans (by congr 1;first | (simp;done) | (simp;omega))⟩;omega
      | false=>
       have oK:¬ (ae s (ae s p).2.2).1=7:=(by intro e;rw[e] at h7;cases h7);have pH:rtake s (ae s p).2.2 7=(ae s p).2.2:=(by unfold rtake;rw[if_neg (by rw[h7];decide)]);rw[pH] at jR;have dA:=eo.call mD jR gG;have dE:=hide ((ad bK).trans (if_neg oK));clear eo mD jR bK oK pH e3 ef;go_wp2_with fail;refine (rtake_any s _ num mv 6 b _ dA.dg gG dQ).mono ?_;rintro e w8 ⟨rfl,so,oq⟩;have jN:=dA.call so oq (by unfold rtake;split;exact nG;exact gG);clear dA so oq;go_wp2_with fail;go_ret;refine⟨?_,_,by rw[ad dE];exact jN⟩;rw[ad dE]
       show Ending.returned (Value.bool ((ae s (ae s p).2.2).1==6))=Ending.returned (Value.bool (decide ((ae s (ae s p).2.2).1=6)))
       rw[Bool.eq_iff_iff.2 (by simp:(((ae s (ae s p).2.2).1==6)=true↔decide ((ae s (ae s p).2.2).1=6)=true))]
     ·have bK:=hide ((ad fS).trans (if_neg (by intro h;rcases h with h | h;exact cN h;exact fB h)));clear fS;go_wp2_with fail;refine (term_no s p num mv b _ hinv.dg dP hs cN fB).mono ?_;rintro e w1 ⟨rfl,de,ez⟩;have cG:=hinv.call de ez dP;clear de ez hinv cN fB;go_wp2_with fail;go_ret;exact⟨by rw[ad bK];rfl,_,by rw[ad bK];exact cG⟩
  ·have fS:=hide (show ptermsS s 4 pos [] pl=(false,p,l,jW) by rw[ad HF,show 4-l.length=0 from by omega,ptermsS]);have sr:¬ (l.length:Int)<4:=(by omega);clear HF;go_wp2_with fail;go_ret;exact⟨by rw[ad fS];rfl,_,by rw[ad fS];exact hinv⟩
end
section
open Go.RowKit
structure PMen where
 num:Nat
 neg:Bool
 pd:B8
 ts:List (Bool × B8)
 start:Nat
 place:Nat
 pl:Nat->Nat
def PMen.cells (M:PMen)(tv:Value):V8:=[.int .i64 M.num,.bool M.neg,.string M.pd,tv,.int .i64 M.start,.int .i64 M.place,.int .i64 (M.pl 0),.int .i64 (M.pl 1),.int .i64 (M.pl 2),.int .i64 (M.pl 3)]
def menCells (ms:List (PMen × Value)):V8:=ms.flatMap λ x=>x.1.cells x.2
structure bL (w:W8)(base:Nat)(mv:Value)(ms:List (PMen × Value)):Prop where
 row:w.ownsRow base 221 10 mv ms.length (menCells ms)
 each:∀ x∈ms,w.ownsRow base 191 1 x.2 x.1.ts.length (ptCells x.1.ts)
variable {ms:List (PMen × Value)} {mv:Value} {base:Nat} {w w':W8} {B:List Nat}
theorem bL.kept (h:bL w base mv ms)(k:Kept B w w')(hB:∀ x∈B,x<base\/w.heap.size<=x):bL w' base mv ms:=by
 have k':Kept (B.filter (·<base)) w w':=⟨k.os,k.tape,k.output,k.size,λ i hi hn=>k.block i hi (λ hm=>by
  rcases hB i hm with h1 | h1
  ·exact hn (by simp[hm,h1])
  ·omega)⟩
 exact⟨ownsRow_kept h.row k' (by simp),λ x hx=>ownsRow_kept (h.each x hx) k' (by simp)⟩
inductive PRes where
 | no (pos:Nat)
 | yes (pos:Nat) (pd:B8) (ts:List (Bool × B8)) (pl:Nat->Nat)
def patomS (s:B8)(pos:Nat):PRes:=
 if (ae s pos).1=2 then
  (if (ae s (ae s pos).2.2).1=5 then
   (if (ptermsS s 4 (ae s (ae s pos).2.2).2.2 [] (λ _=>0)).1 then
    .yes (ptermsS s 4 (ae s (ae s pos).2.2).2.2 [] (λ _=>0)).2.1 (rword s pos) (ptermsS s 4 (ae s (ae s pos).2.2).2.2 [] (λ _=>0)).2.2.1 (ptermsS s 4 (ae s (ae s pos).2.2).2.2 [] (λ _=>0)).2.2.2
   else .no (ptermsS s 4 (ae s (ae s pos).2.2).2.2 [] (λ _=>0)).2.1)
  else .yes (ae s pos).2.2 (rword s pos) [] (λ _=>0))
 else .no pos
theorem menStart (w:W8)(num:Nat)(neg:Bool)(start place:Nat)(o:Obj):cX ((w.alloc o).alloc (.cells #[.int .i64 num,.bool neg,.string { data:=#[] },.slice none 0 0,.int .i64 start,.int .i64 place,.int .i64 0,.int .i64 0,.int .i64 0,.int .i64 0] 221)) (w.heap.size+1) num neg { data:=#[] } (.slice none 0 0) start place (λ _=>0):=by
 refine⟨by simp,?_,?_,?_,?_,?_,?_,λ i hi=>?_,λ o=>?_⟩
 all_goals first | (rw[World.cell?_alloc_at _ _ _ _ (by simp)];rfl) | (rw[World.frozen?_alloc_at _ _ _ _ (by simp)]) | skip
 rw[World.cell?_alloc_at _ _ _ _ (by simp)];have:i=0\/i=1\/i=2\/i=3:=by omega
 rcases this with rfl | rfl | rfl | rfl <;> rfl
structure RA (w:W8)(n:Nat):Prop where
 lt:n<w.heap.size
 c0:w.cell? ⟨n,0,none⟩=some (.string { data:=#[] })
 c1:w.cell? ⟨n,1,none⟩=some (.slice none 0 0)
 fz:∀ o,w.frozen? ⟨n,o,none⟩=false
variable {n:Nat}
theorem RA.kept (h:RA w n)(k:Kept B w w')(hn:n∉B):RA w' n:=
 ⟨Nat.lt_of_lt_of_le h.lt k.size,(k.cell h.lt hn).trans h.c0,(k.cell h.lt hn).trans h.c1,λ o=>(k.frozen h.lt hn).trans (h.fz o)⟩
structure eV (w:W8)(b:Nat)(s:B8)(num:Nat)(mv:Value)(neg:Bool)(start place:Nat)(pd:B8)(tv:Value)(pl:Nat->Nat)(pos:Nat)(wr:W8):Prop where
 dg:dN wr b s pos num mv
 hp:pos<=s.size
 mc:cX wr (w.heap.size+1) num neg pd tv start place pl
 ra:RA wr w.heap.size
 kept:Kept [b] w wr
 bw:b<w.heap.size
variable {wr w1:W8} {pos b:Nat} {tv:Value} {s:B8}
theorem eV.call {num:Nat}{neg:Bool}{start place:Nat}{pd:B8}{pl:Nat->Nat}{pos':Nat}(h:eV w b s num mv neg start place pd tv pl pos wr)(k:Kept [b] wr w1)(hr:dN w1 b s pos' num mv)(hp:pos'<=s.size):eV w b s num mv neg start place pd tv pl pos' w1:=
 have h2:=h.bw
 ⟨hr,hp,h.mc.kept k (by simp;omega),h.ra.kept k (by simp;omega),h.kept.trans k,h.bw⟩
theorem eV.same {num:Nat}{neg:Bool}{start place:Nat}{pd:B8}{pl:Nat->Nat}(h:eV w b s num mv neg start place pd tv pl pos wr)(k:Below wr.heap.size wr w1):eV w b s num mv neg start place pd tv pl pos w1:=
 have kk:=(Kept.refl [] wr).aF k
 ⟨h.dg.kept kk (by simp),h.hp,h.mc.kept kk (by simp),h.ra.kept kk (by simp),h.kept.aF k,h.bw⟩
theorem eV.pred {num:Nat}{neg:Bool}{start place:Nat}{pd:B8}{pl:Nat->Nat}(h:eV w b s num mv neg start place pd tv pl pos wr)(p:B8):eV w b s num mv neg start place p tv pl pos (wr.setCell ⟨w.heap.size+1,2,none⟩ (.string p)):=by
 have h2:=h.bw;have hm:=h.mc;have k:Kept [w.heap.size+1] wr (wr.setCell ⟨w.heap.size+1,2,none⟩ (.string p)):=(Kept.refl _ _).setCell (by simp) _;refine⟨h.dg.kept k (by simp;omega),h.hp,⟨by simpa using hm.lt,?_,?_,bS hm.c2,?_,?_,?_,λ i hi=>?_,λ o=>by simpa using hm.fz o⟩,h.ra.kept k (by simp),h.kept.setCell (.inr (by simp)) _,h.bw⟩
 ·rw[cs_other' (by omega)];exact hm.c0
 ·rw[cs_other' (by omega)];exact hm.c1
 ·rw[cs_other' (by omega)];exact hm.c3
 ·rw[cs_other' (by omega)];exact hm.c4
 ·rw[cs_other' (by omega)];exact hm.c5
 ·rw[cs_other' (by omega)];exact hm.cp i hi
theorem eV.start {num:Nat}(neg:Bool)(start:Nat)(h:dN w b s pos num mv)(hp:pos<=s.size):eV w b s num mv neg start (ae s pos).2.1 { data:=#[] } (.slice none 0 0) (λ _=>0) pos ((w.alloc (Obj.cells #[.string { data:=#[] },.slice none 0 0] 79)).alloc (Obj.cells #[.int IntKind.i64 ↑num,.bool neg,.string { data:=#[] },.slice none 0 0,.int IntKind.i64 ↑start,.int IntKind.i64 ↑(ae s pos).snd.fst,.int IntKind.i64 0,.int IntKind.i64 0,.int IntKind.i64 0,.int IntKind.i64 0] 221)).drew:=by
 have k:=(((Kept.refl [] w).alloc (Obj.cells #[.string { data:=#[] },.slice none 0 0] 79)).alloc (Obj.cells #[.int IntKind.i64 ↑num,.bool neg,.string { data:=#[] },.slice none 0 0,.int IntKind.i64 ↑start,.int IntKind.i64 ↑(ae s pos).snd.fst,.int IntKind.i64 0,.int IntKind.i64 0,.int IntKind.i64 0,.int IntKind.i64 0] 221)).drew;refine⟨h.kept k (by simp),hp,(menStart w num neg start (ae s pos).2.1 _).kept ((Kept.refl [] _).drew) (by simp),?_,k.mono (by simp),h.lt⟩;refine RA.kept ⟨by simp;omega,?_,?_,λ o=>?_⟩ ((Kept.refl [] _).drew) (by simp)
 ·rw[World.cell?_alloc_past _ _ _ (by simp),World.cell?_alloc_at _ _ _ _ rfl];rfl
 ·rw[World.cell?_alloc_past _ _ _ (by simp),World.cell?_alloc_at _ _ _ _ rfl];rfl
 ·rw[World.frozen?_alloc_past _ _ _ (by simp),World.frozen?_alloc_at _ _ _ _ rfl]
theorem set2 (h:RA w1 n)(v0 v1:Value):((w1.setCell ⟨n,0,none⟩ v0).setCell ⟨n,1,none⟩ v1).cell? ⟨n,0,none⟩=some v0/\((w1.setCell ⟨n,0,none⟩ v0).setCell ⟨n,1,none⟩ v1).cell? ⟨n,1,none⟩=some v1:=
 ⟨by rw[cs_other' (by omega)];exact bS h.c0,bS (by rw[cs_other' (by omega)];exact h.c1)⟩
theorem menCells_snoc (ms:List (PMen × Value))(M:PMen)(tv:Value):menCells (ms++[(M,tv)])=menCells ms++M.cells tv:=by simp[menCells]
theorem men_one (M:PMen)(a:O8)(n c:Nat):∀ u∈M.cells (.slice a n c),u.oneCell'=true:=by
 intro u hu;simp[PMen.cells] at hu;rcases hu with rfl | rfl | rfl | rfl | rfl | rfl | rfl | rfl | rfl | rfl <;> rfl
theorem far_not {g cap:Nat}(hd:(Value.slice (some ⟨g,0,none⟩) n cap).ownBlock=none\/(Value.slice (some ⟨g,0,none⟩) n cap).ownBlock≠mv.ownBlock):g∉mv.ownBlock.toList:=λ hm=>by
 have lY:mv.ownBlock=some g:=by simpa using hm
 rcases hd with hd | hd
 ·cases hd
 ·exact hd (by rw[lY];rfl)
theorem men_end {W w5:W8}{num:Nat}{neg:Bool}{start place:Nat}{pd:B8}{pl:Nat->Nat}{ts:List (Bool × B8)}{v':Value}
  (h:eV w b s num mv neg start place pd tv pl pos wr) (eX:bL wr (b+1) mv ms) (Az:∀ k,mv.ownBlock=some k->k<w.heap.size) (jh:wr.ownsRow w.heap.size 191 1 tv ts.length (ptCells ts))
  (hW:∀ k,k<wr.heap.size->W.heap[k]?=wr.heap[k]?) (hS:wr.heap.size<=W.heap.size) (Ak:W.os=wr.os) (J8:W.tape=wr.tape) (JU:W.output=wr.output) (hg:W.grownBy w5 mv.ownBlock)
  (aI:w5.ownsRow (b+1) 221 10 v' (ms.length+1) (menCells ms++(PMen.mk num neg pd ts start place pl).cells tv)):
  Kept (b::mv.ownBlock.toList) w (w5.setCell ⟨b,5,none⟩ v')/\dN (w5.setCell ⟨b,5,none⟩ v') b s pos num v'/\bL (w5.setCell ⟨b,5,none⟩ v') (b+1) v' (ms++[(⟨num,neg,pd,ts,start,place,pl⟩,tv)])/\(w5.setCell ⟨b,5,none⟩ v').ownsRow w.heap.size 191 1 tv ts.length (ptCells ts)/\RA (w5.setCell ⟨b,5,none⟩ v') w.heap.size/\cX (w5.setCell ⟨b,5,none⟩ v') (w.heap.size+1) num neg pd tv start place pl/\dN w5 b s pos num mv:=by
 have ei:=h.bw;have hs5:=hg.size;have k5:Kept mv.ownBlock.toList wr w5:=⟨hg.os.trans Ak,hg.tape.trans J8,hg.output.trans JU,by omega,λ k hk hn=>(hg.block k (by omega) (λ e=>hn (by rw[<-e];simp))).trans (hW k hk)⟩;have yi:b∉mv.ownBlock.toList:=λ hm=>by
  have:=(eX.row.lt b (by simpa using hm)).1;omega
 have yX:∀ x,w.heap.size<=x->x∉mv.ownBlock.toList:=λ x hx hm=>by
  have:=Az x (by simpa using hm);omega
 have kb:Kept [b] w5 (w5.setCell ⟨b,5,none⟩ v'):=(Kept.refl _ _).setCell (by simp) _;have r5:=h.dg.kept k5 yi;have lA:∀ {base:Nat} {v:Value} {n:Nat} {xs:V8},b+1<=base->wr.ownsRow base 191 1 v n xs->(w5.setCell ⟨b,5,none⟩ v').ownsRow base 191 1 v n xs:=by
  intro base v n xs iB hx;have hd:=own_ne hx eX.row (by decide);refine⟨hx.1,?_⟩;rcases hx.2 with hn | ⟨g,cap,cur,rfl,hb,dn,rest⟩
  ·exact .inl hn
  ·have hl:=(Array.getElem?_eq_some_iff.1 dn).1;refine .inr ⟨g,cap,cur,rfl,hb,?_,rest⟩;rw[Below.heap_setCell _ _ _ _ (by simp;omega),k5.block g hl (far_not hd),dn]
 refine⟨?_,?_,⟨?_,λ x hx=>?_⟩,lA (by omega) jh,(h.ra.kept k5 (yX _ L9)).kept kb (by simp;omega),(h.mc.kept k5 (yX _ (by omega))).kept kb (by simp;omega),r5⟩
 ·have k1:Kept (b::mv.ownBlock.toList) w wr:=h.kept.mono (by simp);exact (k1.trans (k5.mono (by simp;intro k hk;exact .inl (.inr hk)))).setCell (by simp) _
 ·obtain⟨q,c0,c1,c2,c3,c4,c5,fz⟩:=r5;exact⟨by simpa using q,by rw[cs_other' (by omega)];exact c0,by rw[cs_other' (by omega)];exact c1,by rw[cs_other' (by omega)];exact c2,by rw[cs_other' (by omega)];exact c3,by rw[cs_other' (by omega)];exact c4,bS c5,λ o=>by simpa using fz o⟩
 ·rw[menCells_snoc,List.length_append];exact ownsRow_setCell_below aI (by simp) _
 ·rcases List.mem_append.1 hx with hx | hx
  ·exact lA L9 (eX.each x hx)
  ·simp at hx;subst hx;exact aw (lA (by omega) jh) (by omega)
theorem ra_set (w:W8)(n:Nat)(v0 v1:Value):Kept [n] w ((w.setCell ⟨n,0,none⟩ v0).setCell ⟨n,1,none⟩ v1):=((Kept.refl _ _).setCell (by simp) _).setCell (by simp) _
variable {n0:Nat}
theorem ownsRow_apart {e:TypeId}{size:Nat}{v:Value}{xs:V8}(h:w.ownsRow base e size v n xs)(k:Kept [n0] w w')(hn:∀ g,v.ownBlock=some g->g≠n0):w'.ownsRow base e size v n xs:=by
 refine⟨h.1,?_⟩;rcases h.2 with hx | ⟨g,cap,cur,rfl,hb,dn,rest⟩
 ·exact .inl hx
 ·refine .inr ⟨g,cap,cur,rfl,hb,?_,rest⟩;rw[k.block g (Array.getElem?_eq_some_iff.1 dn).1 (by simp;exact hn g rfl)];exact dn
theorem men_fin (h:bL w base mv ms)(k:Kept [n0] w w')(hm:∀ g,mv.ownBlock=some g->g≠n0)(ht:∀ x∈ms,∀ g,x.2.ownBlock=some g->g≠n0):bL w' base mv ms:=
 ⟨ownsRow_apart h.row k hm,λ x hx=>ownsRow_apart (h.each x hx) k (ht x hx)⟩
end
section
open Go.RowKit
theorem patom_no (w:W8)(b:Nat)(s:B8)(pos num:Nat)(mv:Value)(neg:Bool)(start:Nat)(h:dN w b s pos num mv)(bn:pos<=s.size)(hs:s.size<=2000000)(hk:¬ (ae s pos).1=2):
  Calls Tryz.prog 98 #[.pointer (some ⟨b,0,none⟩),.bool neg,.int .i64 start] w λ e w'=>e=.returned (.tuple #[.agg #[.string { data:=#[] },.slice none 0 0],.bool false])/\Kept [b] w w'/\dN w' b s pos num mv:=by
 have dQ:s.size<=maxLen:=by unfold maxLen;omega
 have cN:((ae s pos).1==2)=false:=by simp[hk]
 have ht:rtake s pos 2=pos:=by unfold rtake;rw[if_neg (by rw[cN];decide)]
 have HT:=hide ht;have h0:=eV.start neg start h bn;obtain⟨bP,c0,c1,c2,c3,c4,c5,fz⟩:=h;clear hk ht;go_enter Tryz.func98,Tryz.ntmps98;go_wp2_with fail
 go_region
 clear c0 c1 c2 c3 c4 c5 fz;go_wp2_with fail;refine (word_any s pos num mv b _ h0.dg bn hs).mono ?_;rintro e w2 ⟨rfl,aU⟩;have h2:=h0.same aU;have d2:=h2.mc.c2;have df:=h2.mc.fz 2;have h3:=h2.pred (rword s pos);have HI:=hide h3;clear h0 aU h2 h3;go_wp2_with fail;refine (rtake_any s pos num mv 2 b _ (ad HI).dg bn dQ).mono ?_;rintro e w4 ⟨rfl,jO,eY⟩;rw[ad HT] at eY;have h5:=(ad HI).call jO eY bn;have vQ:=h5.ra;obtain⟨zH,zI,zJ,zK⟩:=vQ;clear HI jO eY d2 df;go_wp2_with fail;obtain⟨q0,q1⟩:=set2 h5.ra (.string { data:=#[] }) (.slice none 0 0);refine bodyPost_ret (v:=.tuple #[.agg #[.string { data:=#[] },.slice none 0 0],.bool false]) (by simp[results,Tryz.results98,go_sem,q0,q1]) rfl ⟨rfl,?_,?_⟩
 ·exact (h5.kept.setCell (.inr L9) _).setCell (.inr L9) _
 ·exact h5.dg.kept (((Kept.refl [w.heap.size] _).setCell (by simp) _).setCell (by simp) _) (by simp;omega)
theorem infoMen:(Tryz.prog.info? 221).map (λ i=>(i.zero,i.size,i.bytes))=some (some (.agg #[.int .i64 0,.bool false,.string { data:=#[] },.slice none 0 0,.int .i64 0,.int .i64 0,.int .i64 0,.int .i64 0,.int .i64 0,.int .i64 0]),10,104):=by kernel_rfl
theorem patom_bare (w:W8)(b:Nat)(s:B8)(pos num:Nat)(mv:Value)(neg:Bool)(start:Nat)(ms:List (PMen × Value))(h:dN w b s pos num mv)(eX:bL w (b+1) mv ms)(ed:ms.length<=1000)(bn:pos<=s.size)(hs:s.size<=2000000)(hk:(ae s pos).1=2)(jq:¬ (ae s (ae s pos).2.2).1=5):
  Calls Tryz.prog 98 #[.pointer (some ⟨b,0,none⟩),.bool neg,.int .i64 start] w λ e w'=>∃ tv gm,e=.returned (.tuple #[.agg #[.string (rword s pos),tv],.bool true])/\Kept (b::mv.ownBlock.toList) w w'/\dN w' b s (ae s pos).2.2 num gm/\bL w' (b+1) gm (ms++[(⟨num,neg,rword s pos,[],start,(ae s pos).2.1,λ _=>0⟩,tv)])/\w'.ownsRow w.heap.size 191 1 tv 0 (ptCells [])/\(∀ k,gm.ownBlock=some k->mv.ownBlock=some k\/w.heap.size<=k):=by
 obtain⟨i0,hi,dK,ir,bZ⟩:=info_parts infoMen;have dQ:s.size<=maxLen:=by unfold maxLen;omega
 have cN:((ae s pos).1==2)=true:=by rw[hk];rfl
 have o7:((ae s (ae s pos).2.2).1==5)=false:=by simp[jq]
 have ht:rtake s pos 2=(ae s pos).2.2:=by unfold rtake;rw[if_pos cN]
 have sO:rtake s (ae s pos).2.2 5=(ae s pos).2.2:=by unfold rtake;rw[if_neg (by rw[o7];decide)]
 have HT:=hide ht;have tP:=hide sO;have gG:=(scan_le s pos bn).2;have h0:=eV.start neg start h bn;obtain⟨am,gA,rfl⟩:=own_slice eX.row;have vz:=hide (λ (x:PMen × Value) (hx:x∈ms) k (e:x.2.ownBlock=some k)=>((eX.each x hx).lt k e).2);have nV:=hide (λ k (e:(Value.slice am ms.length gA).ownBlock=some k)=>(eX.row.lt k e).2);obtain⟨bP,c0,c1,c2,c3,c4,c5,fz⟩:=h;clear hk ht sO jq;go_enter Tryz.func98,Tryz.ntmps98;go_wp2_with fail
 go_region
 clear c0 c1 c2 c3 c4 c5 fz;go_wp2_with fail;refine (word_any s pos num _ b _ h0.dg bn hs).mono ?_;rintro e w2 ⟨rfl,aU⟩;have h2:=h0.same aU;have d2:=h2.mc.c2;have df:=h2.mc.fz 2;have h3:=h2.pred (rword s pos);have HI:=hide h3;clear h0 aU h2 h3;go_wp2_with fail;refine (rtake_any s pos num _ 2 b _ (ad HI).dg bn dQ).mono ?_;rintro e w4 ⟨rfl,jO,eY⟩;rw[ad HT] at eY;have h5:=(ad HI).call jO eY gG;clear HI jO eY d2 df;go_wp2_with fail;refine (rtake_any s (ae s pos).2.2 num _ 5 b _ h5.dg gG dQ).mono ?_;rintro e w6 ⟨rfl,qX,mL⟩;rw[ad tP] at mL;have h7:=h5.call qX mL gG;clear h5 qX mL;have l0:bL w6 (b+1) (.slice am ms.length gA) ms:=eX.kept h7.kept (by simp);obtain⟨x0,x1,x2,x3,x4,x5,x6,xp,xf⟩:=h7.mc;have y0:=xp 0 (by omega);have y1:=xp 1 (by omega);have y2:=xp 2 (by omega);have y3:=xp 3 (by omega);have r5:=h7.dg.c5;have aE:=l0.row;have s1:Hid (((w6.alloc (Obj.cells #[.int IntKind.i64 ↑num,.bool neg,.string (rword s pos),.slice none 0 0,.int IntKind.i64 ↑start,.int IntKind.i64 ↑(ae s pos).snd.fst,.int IntKind.i64 0,.int IntKind.i64 0,.int IntKind.i64 0,.int IntKind.i64 0] 221)).drew).ownsRow (b+1) 221 10 (Value.slice am ms.length gA) ms.length (menCells ms)):=aE.alloc _;have s2:Hid (∀ j u,([Value.int IntKind.i64 ↑num,Value.bool neg,Value.string (rword s pos),.slice none 0 0,Value.int IntKind.i64 ↑start,Value.int IntKind.i64 ↑(ae s pos).snd.fst,Value.int IntKind.i64 0,Value.int IntKind.i64 0,Value.int IntKind.i64 0,Value.int IntKind.i64 0]:V8)[j]?=some u->((w6.alloc (Obj.cells #[.int IntKind.i64 ↑num,.bool neg,.string (rword s pos),.slice none 0 0,.int IntKind.i64 ↑start,.int IntKind.i64 ↑(ae s pos).snd.fst,.int IntKind.i64 0,.int IntKind.i64 0,.int IntKind.i64 0,.int IntKind.i64 0] 221)).drew).cell? ((⟨w6.heap.size,0,none⟩:Addr).add j)=some u):=World.news_of_block (heap_alloc_new w6 _);have s3:Hid (∀ u∈([Value.int IntKind.i64 ↑num,Value.bool neg,Value.string (rword s pos),.slice none 0 0,Value.int IntKind.i64 ↑start,Value.int IntKind.i64 ↑(ae s pos).snd.fst,Value.int IntKind.i64 0,Value.int IntKind.i64 0,Value.int IntKind.i64 0,Value.int IntKind.i64 0]:V8),u.oneCell'=true):=men_one ⟨num,neg,rword s pos,[],start,(ae s pos).2.1,λ _=>0⟩ none 0 0
 have s4:Hid (ms.length+1<=maxLen):=by show _<=_;unfold maxLen;omega
 have s5:Hid ((ms.length+1)*104<=140737488355328):=by show _<=_;omega
 have s6:Hid (b+1<=((w6.alloc (Obj.cells #[.int IntKind.i64 ↑num,.bool neg,.string (rword s pos),.slice none 0 0,.int IntKind.i64 ↑start,.int IntKind.i64 ↑(ae s pos).snd.fst,.int IntKind.i64 0,.int IntKind.i64 0,.int IntKind.i64 0,.int IntKind.i64 0] 221)).drew).heap.size):=by show _<=_;have:=h7.dg.lt;simp;omega
 have hW:∀ k,k<w6.heap.size->((w6.alloc (Obj.cells #[.int IntKind.i64 ↑num,.bool neg,.string (rword s pos),.slice none 0 0,.int IntKind.i64 ↑start,.int IntKind.i64 ↑(ae s pos).snd.fst,.int IntKind.i64 0,.int IntKind.i64 0,.int IntKind.i64 0,.int IntKind.i64 0] 221)).drew).heap[k]?=w6.heap[k]?:=λ k hk=>((Kept.refl [] w6).alloc _).block k hk (by simp)
 have hS:w6.heap.size<=((w6.alloc (Obj.cells #[.int IntKind.i64 ↑num,.bool neg,.string (rword s pos),.slice none 0 0,.int IntKind.i64 ↑start,.int IntKind.i64 ↑(ae s pos).snd.fst,.int IntKind.i64 0,.int IntKind.i64 0,.int IntKind.i64 0,.int IntKind.i64 0] 221)).drew).heap.size:=((Kept.refl [] w6).alloc _).size;have pt:w6.ownsRow w.heap.size 191 1 (.slice none 0 0) ([]:List (Bool × B8)).length (ptCells []):=World.ownsRow_nil _ _ _ _;have s8:=hide (λ (w5:W8) (g cap:Nat) (hg:((w6.alloc (Obj.cells #[.int IntKind.i64 ↑num,.bool neg,.string (rword s pos),.slice none 0 0,.int IntKind.i64 ↑start,.int IntKind.i64 ↑(ae s pos).snd.fst,.int IntKind.i64 0,.int IntKind.i64 0,.int IntKind.i64 0,.int IntKind.i64 0] 221)).drew).grownBy w5 (Value.slice am ms.length gA).ownBlock) (aI:w5.ownsRow (b+1) 221 10 (.slice (some ⟨g,0,none⟩) (ms.length+1) cap) (ms.length+1) (menCells ms++[Value.int IntKind.i64 ↑num,Value.bool neg,Value.string (rword s pos),.slice none 0 0,Value.int IntKind.i64 ↑start,Value.int IntKind.i64 ↑(ae s pos).snd.fst,Value.int IntKind.i64 0,Value.int IntKind.i64 0,Value.int IntKind.i64 0,Value.int IntKind.i64 0]))=>men_end (v':=.slice (some ⟨g,0,none⟩) (ms.length+1) cap) h7 l0 (ad nV) pt hW hS rfl rfl rfl hg aI);have h7l:=h7.mc.lt;have iG:=h7.dg.lt;clear hW hS aE l0 pt xp;go_wp2_with fail
 go_region_law (refine step_append_lies _ rfl (.tmp 41) (.tmp 43) 98 rfl (b+1) 221 i0 (.agg #[.int .i64 0,.bool false,.string { data:=#[] },.slice none 0 0,.int .i64 0,.int .i64 0,.int .i64 0,.int .i64 0,.int .i64 0,.int .i64 0]) 10 104 Tryz.underlying98 hi dK ir bZ rfl (by decide) (Value.slice am ms.length gA) ms.length (menCells ms) (by simp[Act.eval]) (ad s1) ⟨w6.heap.size,0,none⟩ 1 1 [Value.int IntKind.i64 ↑num,Value.bool neg,Value.string (rword s pos),.slice none 0 0,Value.int IntKind.i64 ↑start,Value.int IntKind.i64 ↑(ae s pos).snd.fst,Value.int IntKind.i64 0,Value.int IntKind.i64 0,Value.int IntKind.i64 0,Value.int IntKind.i64 0] (by simp[Act.eval]) rfl (ad s2) (ad s3) (by decide) (ad s4) (ad s5) (ad s6) _ rfl ?_;intro g cap w5 dm dz jy yO;obtain⟨e1,e2,e3,e4,e5,e6,e7⟩:=ad s8 w5 g cap dz dm;have z5:=e7.c5;have zf:=e7.fz 5)
 all_goals
  obtain⟨zH,zI,zJ,zK⟩:=e5;have m2:=e6.c2;have m3:=e6.c3;have ml:=e6.lt;clear s1 s2 s3 s4 s5 s6 s8 x0 x1 x2 x3 x4 x5 x6 xf y0 y1 y2 y3 r5 z5 zf h7;go_wp2_with fail;obtain⟨q0,q1⟩:=set2 (RA.mk zH zI zJ zK) (.string (rword s pos)) (.slice none 0 0);have kk:=ra_set (w5.setCell ⟨b,5,none⟩ (.slice (some ⟨g,0,none⟩) (ms.length+1) cap)) w.heap.size (.string (rword s pos)) (.slice none 0 0);refine bodyPost_ret (v:=.tuple #[.agg #[.string (rword s pos),.slice none 0 0],.bool true]) (by simp[results,Tryz.results98,go_sem,q0,q1]) rfl ⟨_,_,rfl,?_,e2.kept kk (by simp;omega),?_,?_,λ k e=>?_⟩
  ·exact (e1.setCell (.inr L9) _).setCell (.inr L9) _
  ·refine men_fin e3 kk (λ k e=>?_) (λ x hx k e=>?_)
   ·rcases jy with h1 | h1
    ·have:=ad nV g h1;injection e with e;simp only at e;omega
    ·injection e with e;simp only at e;simp at h1;omega
   ·rcases List.mem_append.1 hx with hx | hx
    ·have:=ad vz x hx k e;omega
    ·simp at hx;subst hx;cases e
  ·exact World.ownsRow_nil _ _ _ _
  ·injection e with e
   simp only at e;subst e;rcases jy with h1 | h1
   ·exact .inl h1
   ·refine .inr ?_;simp at h1;omega
end
section
open Go.RowKit
theorem patom_yes (w:W8)(b:Nat)(s:B8)(pos num:Nat)(mv:Value)(neg:Bool)(start:Nat)(ms:List (PMen × Value))(h:dN w b s pos num mv)(eX:bL w (b+1) mv ms)(ed:ms.length<=1000)(bn:pos<=s.size)(hs:s.size<=2000000)(hk:(ae s pos).1=2)(jq:(ae s (ae s pos).2.2).1=5)(ub:(ptermsS s 4 (ae s (ae s pos).2.2).2.2 [] (λ _=>0)).1=true):
  Calls Tryz.prog 98 #[.pointer (some ⟨b,0,none⟩),.bool neg,.int .i64 start] w λ e w'=>∃ tv gm,e=.returned (.tuple #[.agg #[.string (rword s pos),tv],.bool true])/\Kept (b::mv.ownBlock.toList) w w'/\dN w' b s (ptermsS s 4 (ae s (ae s pos).2.2).2.2 [] (λ _=>0)).2.1 num gm/\bL w' (b+1) gm (ms++[(⟨num,neg,rword s pos,(ptermsS s 4 (ae s (ae s pos).2.2).2.2 [] (λ _=>0)).2.2.1,start,(ae s pos).2.1,(ptermsS s 4 (ae s (ae s pos).2.2).2.2 [] (λ _=>0)).2.2.2⟩,tv)])/\w'.ownsRow w.heap.size 191 1 tv (ptermsS s 4 (ae s (ae s pos).2.2).2.2 [] (λ _=>0)).2.2.1.length (ptCells (ptermsS s 4 (ae s (ae s pos).2.2).2.2 [] (λ _=>0)).2.2.1) /\(∀ k,gm.ownBlock=some k->mv.ownBlock=some k\/w.heap.size<=k):=by
 obtain⟨i0,hi,dK,ir,bZ⟩:=info_parts infoMen;have dQ:s.size<=maxLen:=by unfold maxLen;omega
 have cN:((ae s pos).1==2)=true:=by rw[hk];rfl
 have o7:((ae s (ae s pos).2.2).1==5)=true:=by rw[jq];rfl
 have ht:rtake s pos 2=(ae s pos).2.2:=by unfold rtake;rw[if_pos cN]
 have sO:rtake s (ae s pos).2.2 5=(ae s (ae s pos).2.2).2.2:=by unfold rtake;rw[if_pos o7]
 have HT:=hide ht;have tP:=hide sO;have gG:=(scan_le s pos bn).2;have nG:=(scan_le s (ae s pos).2.2 gG).2;have h0:=eV.start neg start h bn;obtain⟨am,gA,rfl⟩:=own_slice eX.row;have vz:=hide (λ (x:PMen × Value) (hx:x∈ms) k (e:x.2.ownBlock=some k)=>((eX.each x hx).lt k e).2);have nV:=hide (λ k (e:(Value.slice am ms.length gA).ownBlock=some k)=>(eX.row.lt k e).2);obtain⟨bP,c0,c1,c2,c3,c4,c5,fz⟩:=h;clear hk ht sO jq;go_enter Tryz.func98,Tryz.ntmps98;go_wp2_with fail
 go_region
 clear c0 c1 c2 c3 c4 c5 fz;go_wp2_with fail;refine (word_any s pos num _ b _ h0.dg bn hs).mono ?_;rintro e w2 ⟨rfl,aU⟩;have h2:=h0.same aU;have d2:=h2.mc.c2;have df:=h2.mc.fz 2;have h3:=h2.pred (rword s pos);have HI:=hide h3;clear h0 aU h2 h3;go_wp2_with fail;refine (rtake_any s pos num _ 2 b _ (ad HI).dg bn dQ).mono ?_;rintro e w4 ⟨rfl,jO,eY⟩;rw[ad HT] at eY;have h5:=(ad HI).call jO eY gG;clear HI jO eY d2 df;go_wp2_with fail;refine (rtake_any s (ae s pos).2.2 num _ 5 b _ h5.dg gG dQ).mono ?_;rintro e w6 ⟨rfl,qX,mL⟩;rw[ad tP] at mL;have h7:=h5.call qX mL nG;clear h5 qX mL;have yi:b≠w.heap.size+1:=by have:=h7.bw;omega
 go_wp2_with fail;refine (terms_any w6 b (w.heap.size+1) s _ num _ num neg _ start (ae s pos).2.1 _ h7.dg h7.mc yi nG hs).mono ?_;rintro e w8 ⟨rfl,tv,hT⟩;generalize Am:ptermsS s 4 (ae s (ae s pos).2.2).2.2 [] (λ _=>0)=PP at *;obtain⟨ok,p3,ts,pl⟩:=PP;simp only at hT;obtain⟨cy,bT,rfl⟩:=own_slice hT.own;have Dp:w.heap.size+1<w6.heap.size:=h7.mc.lt;have h8:eV w b s num (.slice am ms.length gA) neg start (ae s pos).2.1 (rword s pos) (.slice cy ts.length bT) pl p3 w8:=by
  refine⟨hT.dg,hT.hp,hT.mc,h7.ra.kept hT.kept (by simp;have:=h7.bw;omega),?_,h7.bw⟩;have k1:Kept [b,w.heap.size+1] w w6:=h7.kept.mono (by simp);exact (k1.trans hT.kept).mono (by simp)
 have uU:w8.ownsRow w.heap.size 191 1 (.slice cy ts.length bT) ts.length (ptCells ts):=aw hT.own (by omega);have Ag:=hide (λ g (e:(Value.slice cy ts.length bT).ownBlock=some g)=>(hT.own.lt g e).1);clear hT h7;have bX:ok=true:=ub;subst bX;have xa:=hide Am;clear Am;have l0:bL w8 (b+1) (.slice am ms.length gA) ms:=eX.kept h8.kept (by simp);obtain⟨x0,x1,x2,x3,x4,x5,x6,xp,xf⟩:=h8.mc;have y0:=xp 0 (by omega);have y1:=xp 1 (by omega);have y2:=xp 2 (by omega);have y3:=xp 3 (by omega);have r5:=h8.dg.c5;have aE:=l0.row;have s1:Hid (((w8.alloc (Obj.cells #[.int IntKind.i64 ↑num,.bool neg,.string (rword s pos),.slice cy ts.length bT,.int IntKind.i64 ↑start,.int IntKind.i64 ↑(ae s pos).snd.fst,.int IntKind.i64 ↑(pl 0),.int IntKind.i64 ↑(pl 1),.int IntKind.i64 ↑(pl 2),.int IntKind.i64 ↑(pl 3)] 221)).drew).ownsRow (b+1) 221 10 (Value.slice am ms.length gA) ms.length (menCells ms)):=aE.alloc _;have s2:Hid (∀ j u,([Value.int IntKind.i64 ↑num,Value.bool neg,Value.string (rword s pos),.slice cy ts.length bT,Value.int IntKind.i64 ↑start,Value.int IntKind.i64 ↑(ae s pos).snd.fst,Value.int IntKind.i64 ↑(pl 0),Value.int IntKind.i64 ↑(pl 1),Value.int IntKind.i64 ↑(pl 2),Value.int IntKind.i64 ↑(pl 3)]:V8)[j]?=some u->((w8.alloc (Obj.cells #[.int IntKind.i64 ↑num,.bool neg,.string (rword s pos),.slice cy ts.length bT,.int IntKind.i64 ↑start,.int IntKind.i64 ↑(ae s pos).snd.fst,.int IntKind.i64 ↑(pl 0),.int IntKind.i64 ↑(pl 1),.int IntKind.i64 ↑(pl 2),.int IntKind.i64 ↑(pl 3)] 221)).drew).cell? ((⟨w8.heap.size,0,none⟩:Addr).add j)=some u):=World.news_of_block (heap_alloc_new w8 _);have s3:Hid (∀ u∈([Value.int IntKind.i64 ↑num,Value.bool neg,Value.string (rword s pos),.slice cy ts.length bT,Value.int IntKind.i64 ↑start,Value.int IntKind.i64 ↑(ae s pos).snd.fst,Value.int IntKind.i64 ↑(pl 0),Value.int IntKind.i64 ↑(pl 1),Value.int IntKind.i64 ↑(pl 2),Value.int IntKind.i64 ↑(pl 3)]:V8),u.oneCell'=true):=men_one ⟨num,neg,rword s pos,ts,start,(ae s pos).2.1,pl⟩ cy ts.length bT
 have s4:Hid (ms.length+1<=maxLen):=by show _<=_;unfold maxLen;omega
 have s5:Hid ((ms.length+1)*104<=140737488355328):=by show _<=_;omega
 have s6:Hid (b+1<=((w8.alloc (Obj.cells #[.int IntKind.i64 ↑num,.bool neg,.string (rword s pos),.slice cy ts.length bT,.int IntKind.i64 ↑start,.int IntKind.i64 ↑(ae s pos).snd.fst,.int IntKind.i64 ↑(pl 0),.int IntKind.i64 ↑(pl 1),.int IntKind.i64 ↑(pl 2),.int IntKind.i64 ↑(pl 3)] 221)).drew).heap.size):=by show _<=_;have:=h8.dg.lt;simp;omega
 have hW:∀ k,k<w8.heap.size->((w8.alloc (Obj.cells #[.int IntKind.i64 ↑num,.bool neg,.string (rword s pos),.slice cy ts.length bT,.int IntKind.i64 ↑start,.int IntKind.i64 ↑(ae s pos).snd.fst,.int IntKind.i64 ↑(pl 0),.int IntKind.i64 ↑(pl 1),.int IntKind.i64 ↑(pl 2),.int IntKind.i64 ↑(pl 3)] 221)).drew).heap[k]?=w8.heap[k]?:=λ k hk=>((Kept.refl [] w8).alloc _).block k hk (by simp)
 have hS:w8.heap.size<=((w8.alloc (Obj.cells #[.int IntKind.i64 ↑num,.bool neg,.string (rword s pos),.slice cy ts.length bT,.int IntKind.i64 ↑start,.int IntKind.i64 ↑(ae s pos).snd.fst,.int IntKind.i64 ↑(pl 0),.int IntKind.i64 ↑(pl 1),.int IntKind.i64 ↑(pl 2),.int IntKind.i64 ↑(pl 3)] 221)).drew).heap.size:=((Kept.refl [] w8).alloc _).size;have s8:=hide (λ (w5:W8) (g cap:Nat) (hg:((w8.alloc (Obj.cells #[.int IntKind.i64 ↑num,.bool neg,.string (rword s pos),.slice cy ts.length bT,.int IntKind.i64 ↑start,.int IntKind.i64 ↑(ae s pos).snd.fst,.int IntKind.i64 ↑(pl 0),.int IntKind.i64 ↑(pl 1),.int IntKind.i64 ↑(pl 2),.int IntKind.i64 ↑(pl 3)] 221)).drew).grownBy w5 (Value.slice am ms.length gA).ownBlock) (aI:w5.ownsRow (b+1) 221 10 (.slice (some ⟨g,0,none⟩) (ms.length+1) cap) (ms.length+1) (menCells ms++[Value.int IntKind.i64 ↑num,Value.bool neg,Value.string (rword s pos),.slice cy ts.length bT,Value.int IntKind.i64 ↑start,Value.int IntKind.i64 ↑(ae s pos).snd.fst,Value.int IntKind.i64 ↑(pl 0),Value.int IntKind.i64 ↑(pl 1),Value.int IntKind.i64 ↑(pl 2),Value.int IntKind.i64 ↑(pl 3)]))=>men_end (v':=.slice (some ⟨g,0,none⟩) (ms.length+1) cap) h8 l0 (ad nV) uU hW hS rfl rfl rfl hg aI);have h8l:=h8.mc.lt;have iG:=h8.dg.lt;clear hW hS aE l0 xp uU;go_wp2_with fail
 go_region_law (refine step_append_lies _ rfl (.tmp 41) (.tmp 43) 98 rfl (b+1) 221 i0 (.agg #[.int .i64 0,.bool false,.string { data:=#[] },.slice none 0 0,.int .i64 0,.int .i64 0,.int .i64 0,.int .i64 0,.int .i64 0,.int .i64 0]) 10 104 Tryz.underlying98 hi dK ir bZ rfl (by decide) (Value.slice am ms.length gA) ms.length (menCells ms) (by simp[Act.eval]) (ad s1) ⟨w8.heap.size,0,none⟩ 1 1 [Value.int IntKind.i64 ↑num,Value.bool neg,Value.string (rword s pos),.slice cy ts.length bT,Value.int IntKind.i64 ↑start,Value.int IntKind.i64 ↑(ae s pos).snd.fst,Value.int IntKind.i64 ↑(pl 0),Value.int IntKind.i64 ↑(pl 1),Value.int IntKind.i64 ↑(pl 2),Value.int IntKind.i64 ↑(pl 3)] (by simp[Act.eval]) rfl (ad s2) (ad s3) (by decide) (ad s4) (ad s5) (ad s6) _ rfl ?_;intro g cap w5 dm dz jy yO;obtain⟨e1,e2,e3,e4,e5,e6,e7⟩:=ad s8 w5 g cap dz dm;have z5:=e7.c5;have zf:=e7.fz 5)
 all_goals
  obtain⟨zH,zI,zJ,zK⟩:=e5;have m2:=e6.c2;have m3:=e6.c3;have ml:=e6.lt;clear s1 s2 s3 s4 s5 s6 s8 x0 x1 x2 x3 x4 x5 x6 xf y0 y1 y2 y3 r5 z5 zf h8;go_wp2_with fail;obtain⟨q0,q1⟩:=set2 (RA.mk zH zI zJ zK) (.string (rword s pos)) (.slice cy ts.length bT);have kk:=ra_set (w5.setCell ⟨b,5,none⟩ (.slice (some ⟨g,0,none⟩) (ms.length+1) cap)) w.heap.size (.string (rword s pos)) (.slice cy ts.length bT);refine bodyPost_ret (v:=.tuple #[.agg #[.string (rword s pos),.slice cy ts.length bT],.bool true]) (by simp[results,Tryz.results98,go_sem,q0,q1]) rfl ⟨_,_,rfl,?_,by rw[ad xa];exact e2.kept kk (by simp;omega),?_,?_,λ k e=>?_⟩
  ·exact (e1.setCell (.inr L9) _).setCell (.inr L9) _
  ·rw[ad xa];refine men_fin e3 kk (λ k e=>?_) (λ x hx k e=>?_)
   ·rcases jy with h1 | h1
    ·have:=ad nV g h1;injection e with e;simp only at e;omega
    ·injection e with e;simp only at e;simp at h1;omega
   ·rcases List.mem_append.1 hx with hx | hx
    ·have:=ad vz x hx k e;omega
    ·simp at hx;subst hx;have:=ad Ag k e;omega
  ·rw[ad xa];exact ownsRow_apart e4 kk (λ k e=>by have:=ad Ag k e;omega)
  ·injection e with e
   simp only at e;subst e;rcases jy with h1 | h1
   ·exact .inl h1
   ·refine .inr ?_;simp at h1;omega
end
end Go.Proofs.YtldkpahaocjdpaaGreat
