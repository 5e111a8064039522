/-
  The program's reader: word and term.
-/
import Derived.Test.YtldkpahaocjdpaaGreatD06
set_option maxHeartbeats 16000000
set_option maxRecDepth 1000000
namespace Go.Proofs.YtldkpahaocjdpaaGreat
section
open Go.RowKit
theorem M8 (s:B8)(pos:Nat):(yT s pos).size<=s.size:=by
 unfold yT;simp[ByteArray.size_extract];omega
theorem zeb (s:B8)(pos num:Nat)(mv:Value)(b:Nat)(w:W8)(h:dN w b s pos num mv)(bn:pos<=s.size)(hs:s.size<=2000000):
  Calls Tryz.prog 143 #[.pointer (some ⟨b,0,none⟩)] w λ e w'=>e=.returned (.string (yT s pos))/\Below w.heap.size w w':=by
 have h':=h;obtain⟨bP,c0,c1,c2,c3,c4,c5,fz⟩:=h;obtain⟨l1,l2⟩:=xD s pos bn;have l1I:((zD s pos).2.1:Int)<=((zD s pos).2.2:Int):=by omega
 have l2I:((zD s pos).2.2:Int)<=(s.size:Int):=by omega
 have hw:=M8 s pos;unfold yT at hw ⊢;have HC:=zC (λ w1=>z0r (s.extract (zD s pos).2.1 (zD s pos).2.2) (by omega) w1);clear hw;go_enter Tryz.func143,Tryz.ntmps143;go_wp2_with fail
 go_region_with (go_at_call 198;refine (zA HC _).mono ?_;rintro e w1 ⟨rfl,aT⟩)
 all_goals
  go_wp2_with fail;go_ret;exact⟨rfl,Below.gR aT⟩
def zdg (isVar:Bool)(text:B8):Value:=.iface (if isVar then 130 else 193) (.string text)
theorem z33 (s:B8)(pos num:Nat)(mv:Value)(b:Nat)(w:W8)(h:dN w b s pos num mv)(bn:pos<=s.size)(hs:s.size<=2000000)(hk:(zD s pos).1=2):
  Calls Tryz.prog 199 #[.pointer (some ⟨b,0,none⟩)] w λ e w'=>e=.returned (.tuple #[zdg false (yT s pos),.bool true])/\yC [b] w w'/\dN w' b s (zD s pos).2.2 num mv:=by
 have dQ:s.size<=maxLen:=by unfold maxLen;omega
 have cN:((zD s pos).1==2)=true:=by rw[hk];rfl
 have ht:yB s pos 2=(zD s pos).2.2:=by unfold yB;rw[if_pos cN]
 have HT:=zC ht;clear hk ht;go_enter Tryz.func199,Tryz.ntmps199;go_wp2_with fail;refine (zeb s pos num mv b _ h bn hs).mono ?_;rintro e w1 ⟨rfl,aT⟩;have h1:=h.kept ((yC.refl [] w).aF aT) (by simp);go_wp2_with fail;refine (yQ s pos num mv 2 b _ h1 bn dQ).mono ?_;rintro e w2 ⟨rfl,o6,h2⟩;rw[zA HT] at h2;go_wp2_with fail
 go_ret2
 exact⟨rfl,((yC.refl [b] w).aF aT).trans o6,h2⟩
theorem z74 (s:B8)(pos num:Nat)(mv:Value)(b:Nat)(w:W8)(h:dN w b s pos num mv)(bn:pos<=s.size)(hs:s.size<=2000000)(hk:(zD s pos).1=3):
  Calls Tryz.prog 199 #[.pointer (some ⟨b,0,none⟩)] w λ e w'=>e=.returned (.tuple #[zdg true (yT s pos),.bool true])/\yC [b] w w'/\dN w' b s (zD s pos).2.2 num mv:=by
 have dQ:s.size<=maxLen:=by unfold maxLen;omega
 have de:((zD s pos).1==2)=false:=by rw[hk];rfl
 have cN:((zD s pos).1==3)=true:=by rw[hk];rfl
 have iN:yB s pos 2=pos:=by unfold yB;rw[if_neg (by rw[de];decide)]
 have ht:yB s pos 3=(zD s pos).2.2:=by unfold yB;rw[if_pos cN]
 have HT:=zC ht;have Af:=zC iN;clear hk ht iN;go_enter Tryz.func199,Tryz.ntmps199;go_wp2_with fail;refine (zeb s pos num mv b _ h bn hs).mono ?_;rintro e w1 ⟨rfl,aT⟩;have h1:=h.kept ((yC.refl [] w).aF aT) (by simp);go_wp2_with fail;refine (yQ s pos num mv 2 b _ h1 bn dQ).mono ?_;rintro e w2 ⟨rfl,o6,h2⟩;rw[zA Af] at h2;go_wp2_with fail;refine (yQ s pos num mv 3 b _ h2 bn dQ).mono ?_;rintro e w3 ⟨rfl,ux,h3⟩;rw[zA HT] at h3;go_wp2_with fail
 go_ret2
 exact⟨rfl,(((yC.refl [b] w).aF aT).trans o6).trans ux,h3⟩
theorem ybl (s:B8)(pos num:Nat)(mv:Value)(b:Nat)(w:W8)(h:dN w b s pos num mv)(bn:pos<=s.size)(hs:s.size<=2000000)(FI:¬ (zD s pos).1=2)(EW:¬ (zD s pos).1=3):
  Calls Tryz.prog 199 #[.pointer (some ⟨b,0,none⟩)] w λ e w'=>e=.returned (.tuple #[.nilIface,.bool false])/\yC [b] w w'/\dN w' b s pos num mv:=by
 have dQ:s.size<=maxLen:=by unfold maxLen;omega
 have de:((zD s pos).1==2)=false:=by simp[FI]
 have cN:((zD s pos).1==3)=false:=by simp[EW]
 have iN:yB s pos 2=pos:=by unfold yB;rw[if_neg (by rw[de];decide)]
 have ht:yB s pos 3=pos:=by unfold yB;rw[if_neg (by rw[cN];decide)]
 have HT:=zC ht;have Af:=zC iN;clear FI EW ht iN;go_enter Tryz.func199,Tryz.ntmps199;go_wp2_with fail;refine (zeb s pos num mv b _ h bn hs).mono ?_;rintro e w1 ⟨rfl,aT⟩;have h1:=h.kept ((yC.refl [] w).aF aT) (by simp);go_wp2_with fail;refine (yQ s pos num mv 2 b _ h1 bn dQ).mono ?_;rintro e w2 ⟨rfl,o6,h2⟩;rw[zA Af] at h2;go_wp2_with fail;refine (yQ s pos num mv 3 b _ h2 bn dQ).mono ?_;rintro e w3 ⟨rfl,ux,h3⟩;rw[zA HT] at h3;go_wp2_with fail
 go_ret2
 exact⟨rfl,(((yC.refl [b] w).aF aT).trans o6).trans ux,h3⟩
end
section
open Go.RowKit
structure dW (w:W8)(m num:Nat)(neg:Bool)(pd:B8)(tv:Value)(start place:Nat)(pl:Nat->Nat):Prop where
 lt:m<w.heap.size
 c0:w.cell? ⟨m,0,none⟩=some (.int .i64 num)
 c1:w.cell? ⟨m,1,none⟩=some (.bool neg)
 c2:w.cell? ⟨m,2,none⟩=some (.string pd)
 c3:w.cell? ⟨m,3,none⟩=some tv
 c4:w.cell? ⟨m,4,none⟩=some (.int .i64 start)
 c5:w.cell? ⟨m,5,none⟩=some (.int .i64 place)
 cp:∀ i,i<4->w.cell? ⟨m,6+i,none⟩=some (.int .i64 (pl i))
 fz:∀ o,w.frozen? ⟨m,o,none⟩=false
variable {pl:Nat->Nat} {start m num:Nat} {tv:Value} {pd:B8} {neg:Bool} {w:W8}
theorem dW.kept {B:List Nat}{w':W8}{place:Nat}(h:dW w m num neg pd tv start place pl)(k:yC B w w')(hn:m∉B):dW w' m num neg pd tv start place pl:=
 ⟨Nat.lt_of_lt_of_le h.lt k.size,(k.cell h.lt hn).trans h.c0,(k.cell h.lt hn).trans h.c1,(k.cell h.lt hn).trans h.c2,(k.cell h.lt hn).trans h.c3,(k.cell h.lt hn).trans h.c4,(k.cell h.lt hn).trans h.c5,λ i hi=>(k.cell h.lt hn).trans (h.cp i hi),λ o=>(k.frozen h.lt hn).trans (h.fz o)⟩
def dL (pl:Nat->Nat)(i v:Nat):Nat->Nat:=λ a=>if a=i then v else pl a
variable {v:Value} {b o:Nat}
theorem jX {u:Value}(h:w.cell? ⟨b,o,none⟩=some u):(w.setCell ⟨b,o,none⟩ v).cell? ⟨b,o,none⟩=some v:=by go_simp
theorem zS {b' o':Nat}(h:¬ (b=b'/\o=o')):(w.setCell ⟨b,o,none⟩ v).cell? ⟨b',o',none⟩=w.cell? ⟨b',o',none⟩:=by
 by_cases hb:b=b'
 ·subst hb;have ho:o≠o':=λ e=>h ⟨rfl,e⟩
  unfold World.cell? World.setCell;simp only[Array.getElem?_modify,if_true]
  cases w.heap[b]? with
  | none=>rfl
  | some x=>cases x <;> simp[ho]
 ·exact World.cell?_of_block (w:=w) (Below.heap_setCell w ⟨b,o,none⟩ v b' (by simp;omega))
theorem dW.dL {w:W8}{m num:Nat}{neg:Bool}{pd:B8}{tv:Value}{start place:Nat}{pl:Nat->Nat}(h:dW w m num neg pd tv start place pl)(i v:Nat)(hi:i<4):dW (w.setCell ⟨m,6+i,none⟩ (.int .i64 v)) m num neg pd tv start place (Go.Proofs.YtldkpahaocjdpaaGreat.dL pl i v):=by
 refine⟨by simpa using h.lt,?_,?_,?_,?_,?_,?_,λ a ha=>?_,λ o=>by simpa using h.fz o⟩
 ·rw[zS (by omega)];exact h.c0
 ·rw[zS (by omega)];exact h.c1
 ·rw[zS (by omega)];exact h.c2
 ·rw[zS (by omega)];exact h.c3
 ·rw[zS (by omega)];exact h.c4
 ·rw[zS (by omega)];exact h.c5
 ·by_cases e:a=i
  ·subst e;rw[jX (h.cp a ha)];simp[Go.Proofs.YtldkpahaocjdpaaGreat.dL]
  ·rw[zS (by omega),h.cp a ha];simp[Go.Proofs.YtldkpahaocjdpaaGreat.dL,e]
theorem dW.Mg {place:Nat}(h:dW w m num neg pd tv start place pl)(v:Value):dW (w.setCell ⟨m,3,none⟩ v) m num neg pd v start place pl:=by
 refine⟨by simpa using h.lt,?_,?_,?_,jX h.c3,?_,?_,λ a ha=>?_,λ o=>by simpa using h.fz o⟩
 ·rw[zS (by omega)];exact h.c0
 ·rw[zS (by omega)];exact h.c1
 ·rw[zS (by omega)];exact h.c2
 ·rw[zS (by omega)];exact h.c4
 ·rw[zS (by omega)];exact h.c5
 ·rw[zS (by omega)];exact h.cp a ha
def yP (l:List (Bool × B8)):V8:=l.map λ t=>zdg t.1 t.2
def zR (s:B8):Nat->Nat->List (Bool × B8)->(Nat->Nat)->Bool × Nat × List (Bool × B8) × (Nat->Nat)
 | 0,pos,l,pl=>(false,pos,l,pl)
 | f+1,pos,l,pl=>
  if (zD s pos).1=2\/(zD s pos).1=3 then
   (if (zD s (zD s pos).2.2).1=7 then zR s f (zD s (zD s pos).2.2).2.2 (l++[(decide ((zD s pos).1=3),yT s pos)]) (dL pl l.length (zD s pos).2.1)
   else (decide ((zD s (zD s pos).2.2).1=6),yB s (zD s pos).2.2 6,l++[(decide ((zD s pos).1=3),yT s pos)],dL pl l.length (zD s pos).2.1))
  else (false,pos,l,dL pl l.length (zD s pos).2.1)
structure dU (w:W8)(b m:Nat)(s:B8)(num:Nat)(mv:Value)(rn:Nat)(neg:Bool)(pd:B8)(start place:Nat)(l:List (Bool × B8))(pos:Nat)(pl:Nat->Nat)(tv:Value)(wr:W8):Prop where
 dg:dN wr b s pos num mv
 hp:pos<=s.size
 mc:dW wr m rn neg pd tv start place pl
 own:wr.ownsRow w.heap.size 191 1 tv l.length (yP l)
 kept:yC [b,m] w wr
 bm:b≠m
 bw:b<w.heap.size
 mw:m<w.heap.size
variable {wr w1:W8} {pos rn:Nat} {l:List (Bool × B8)} {mv:Value} {s:B8}
theorem dU.call {place pos':Nat}(h:dU w b m s num mv rn neg pd start place l pos pl tv wr)(k:yC [b] wr w1)(hr:dN w1 b s pos' num mv)(hp:pos'<=s.size):dU w b m s num mv rn neg pd start place l pos' pl tv w1:=
 have h1:=h.bm;have h2:=h.bw
 ⟨hr,hp,h.mc.kept k (by simp;omega),za4 h.own k (by simp;omega),h.kept.trans (k.mono (by simp)),h.bm,h.bw,h.mw⟩
theorem dU.place {place:Nat}(h:dU w b m s num mv rn neg pd start place l pos pl tv wr)(i v:Nat)(hi:i<4):dU w b m s num mv rn neg pd start place l pos (dL pl i v) tv (wr.setCell ⟨m,6+i,none⟩ (.int .i64 v)):=
 have h1:=h.bm;have h3:=h.mw
 ⟨h.dg.kept ((yC.refl [m] _).setCell (by simp) _) (by simp;omega),h.hp,h.mc.dL i v hi,ownsRow_setCell_below h.own (by simpa using h3) _,h.kept.setCell (by simp) _,h.bm,h.bw,h.mw⟩
theorem dU.drew {w:W8}{b m:Nat}{s:B8}{num:Nat}{mv:Value}{rn:Nat}{neg:Bool}{pd:B8}{start place:Nat}{l:List (Bool × B8)}{pos:Nat}{pl:Nat->Nat}{tv:Value}{wr:W8}(h:dU w b m s num mv rn neg pd start place l pos pl tv wr):dU w b m s num mv rn neg pd start place l pos pl tv wr.drew:=
 have k:=(yC.refl [] wr).drew
 ⟨h.dg.kept k (by simp),h.hp,h.mc.kept k (by simp),za4 h.own k (by simp),h.kept.drew,h.bm,h.bw,h.mw⟩
theorem dU.append {place:Nat}{w5:W8}(h:dU w b m s num mv rn neg pd start place l pos pl tv w1){o1:Obj}{v':Value}(t:Bool × B8)
  (aI:w5.ownsRow w.heap.size 191 1 v' (l.length+1) (yP l++[zdg t.1 t.2])) (hg:(w1.alloc o1).grownBy w5 tv.ownBlock):
  dU w b m s num mv rn neg pd start place (l++[t]) pos pl v' (w5.setCell ⟨m,3,none⟩ v')/\dW w5 m rn neg pd tv start place pl:=by
 have h1:=h.bm;have h2:=h.bw;have h3:=h.mw;have aE:∀ k,tv.ownBlock=some k->w.heap.size<=k:=λ k e=>(h.own.lt k e).1
 have k5:yC tv.ownBlock.toList w1 w5:=((yC.refl _ w1).alloc o1).grown hg (λ k e=>.inr (by simp[e]));have nF:∀ k,k<w.heap.size->k∉tv.ownBlock.toList:=by
  intro k hk hm
  cases hv:tv.ownBlock with
  | none=>simp[hv] at hm
  | some x=>simp[hv] at hm;have:=aE x hv;omega
 have m5:=h.mc.kept k5 (nF _ h3);refine⟨⟨(h.dg.kept k5 (nF _ h2)).kept ((yC.refl [m] _).setCell (by simp) _) (by simp;omega),h.hp,m5.Mg v',?_,?_,h.bm,h.bw,h.mw⟩,m5⟩
 ·have:=ownsRow_setCell_below aI (a:=⟨m,3,none⟩) (by simpa using h3) v';simpa[yP] using this
 ·exact ((h.kept.alloc o1).grown hg (λ k e=>.inl (aE k e))).setCell (by simp) _
end
section
open Go.RowKit
theorem zrd:(Tryz.prog.info? 191).map (λ i=>(i.zero,i.size,i.bytes))=some (some .nilIface,1,16):=by kernel_rfl
theorem zug (w1:W8)(v:Value):∀ j u,([v]:V8)[j]?=some u->(w1.alloc (.cells #[v] 191)).cell? ((⟨w1.heap.size,0,none⟩:Addr).add j)=some u:=by
 intro j u hj;have e:(⟨w1.heap.size,0,none⟩:Addr).add j=⟨w1.heap.size,j,none⟩:=by unfold Addr.add;split <;> simp_all
 rw[e,World.cell?_alloc_at _ _ _ _ rfl];simpa using hj
theorem z20 (v:Bool)(t:B8):∀ u∈[zdg v t],u.oneCell'=true:=by
 intro u hu;simp at hu;subst hu;rfl
theorem zsy (w:W8)(b m:Nat)(s:B8)(pos num:Nat)(mv:Value)(rn:Nat)(neg:Bool)(pd:B8)(start place:Nat)(pl:Nat->Nat)(hr:dN w b s pos num mv)(hm:dW w m rn neg pd (.slice none 0 0) start place pl)(oi:b≠m)(bn:pos<=s.size)(hs:s.size<=2000000):
  Calls Tryz.prog 144 #[.pointer (some ⟨b,0,none⟩),.pointer (some ⟨m,0,none⟩)] w λ e w'=>e=.returned (.bool (zR s 4 pos [] pl).1)/\∃ tv,dU w b m s num mv rn neg pd start place (zR s 4 pos [] pl).2.2.1 (zR s 4 pos [] pl).2.1 (zR s 4 pos [] pl).2.2.2 tv w':=by
 obtain⟨i0,hi,dK,cB,bZ⟩:=info_parts zrd;have dQ:s.size<=maxLen:=by unfold maxLen;omega
 have h0:dU w b m s num mv rn neg pd start place [] pos pl (.slice none 0 0) w:=⟨hr,bn,hm,World.ownsRow_nil _ _ _ _,yC.refl _ _,oi,hr.lt,hm.lt⟩;clear hr hm;go_enter Tryz.func144,Tryz.ntmps144;go_wp2_with fail
 go_loopg [5,6,7,8] 5 (λ gg i5 t6 ok7 i8 wr=>∃ (l:List (Bool × B8)) (p:Nat) (cH:Nat->Nat) (tv:Value),l.length<=4/\gg=5-l.length/\i8=.int .i64 l.length/\dU w b m s num mv rn neg pd start place l p cH tv wr/\zR s 4 pos [] pl=zR s (4-l.length) p l cH)
 exact⟨[],pos,pl,_,by simp,rfl,rfl,h0,rfl⟩
 case round=>
  clear h0;obtain⟨l,p,cH,tv,LI,dn,rfl,hinv,bj⟩:=hrel;have HF:=zC bj;clear bj;obtain⟨a0,BR,rfl⟩:=zE hinv.own
  by_cases hl:l.length<4
  ·have sr:(l.length:Int)<4:=(by omega);have iq:zR s (4-l.length) p l cH=zR s ((3-l.length)+1) p l cH:=(by congr 1;omega);have fS:=zC ((zA HF).trans (iq.trans (by rw[zR])));obtain⟨JH,c0,c1,c2,c3,c4,c5,fz⟩:=hinv.dg;have KB:=hinv.mc.cp l.length hl;have KC:=hinv.mc.fz (6+l.length);have Az:=hinv.mw;have dP:=hinv.hp;have HI:=zC hinv;clear HF hinv iq;go_upto_region 4 with fail
   go_cut [] (λ wc=>dU w b m s num mv rn neg pd start place l p (dL cH l.length (zD s p).2.1) (.slice a0 l.length BR) wc)
   case first=>
    go_region
    all_goals
     go_wp2_with fail;go_meet
     case rel=>exact ((zA HI).place l.length (zD s p).2.1 hl).drew
   case rest=>
    have hinv:=hcut;clear hcut HI c0 c1 c2 c3 c4 c5 fz KB KC
    by_cases cN:(zD s p).1=2
    ·have hk:=cN;clear cN;have bK:=zC ((zA fS).trans (if_pos (Or.inl hk)));have Em:decide ((zD s p).1=3)=false:=(by rw[hk];rfl);go_wp2_with fail;refine (z33 s p num mv b _ hinv.dg dP hs hk).mono ?_;rintro e w1 ⟨rfl,de,ez⟩;have gG:=(xD s p dP).2;have cG:=hinv.call de ez gG;have d3:=cG.mc.c3;have fP:=cG.own;have C5:=cG.mc.lt;rw[Em] at bK;have G5:=zC hk;clear fS de ez hinv hk Em;unfold zdg;simp only[if_false,Bool.false_eq_true];go_wp2_with (at_builtin;refine wpList_append_own _ rfl _ _ 77 rfl w.heap.size 191 i0 _ 1 16 Tryz.underlying77 hi dK cB bZ rfl (by decide) _ _ _ rfl (fP.alloc _) ⟨w1.heap.size,0,none⟩ 1 1 [zdg false (yT s p)] rfl rfl (zug w1 _) (z20 _ _) (by unfold maxLen;omega) (by omega) (by have:=cG.kept.size;simp;omega) ?_);intro v5 w5 hown5 dz hne5;clear hne5;obtain⟨a5,gz,rfl⟩:=zE hown5;obtain⟨eo,lZ⟩:=cG.append (false,yT s p) hown5 dz;have e3:=lZ.c3;have ef:=lZ.fz 3;clear hown5 dz d3 fP cG lZ;go_wp2_with fail;refine (yQ s _ num mv 7 b _ eo.dg gG dQ).mono ?_;rintro e w7 ⟨rfl,mD,bW⟩;have nG:=(xD s (zD s p).2.2 gG).2
     cases h7:((zD s (zD s p).2.2).1==7) with
     | true=>
      have oK:(zD s (zD s p).2.2).1=7:=eq_of_beq h7;have pH:yB s (zD s p).2.2 7=(zD s (zD s p).2.2).2.2:=(by unfold yB;rw[if_pos h7]);rw[pH] at bW;have dA:=eo.call mD bW nG;have dE:=zC ((zA bK).trans (if_pos oK));clear eo mD bW bK oK pH e3 ef;go_wp2_with fail;go_roundg (5-(l.length+1));exact⟨_,_,_,_,by simp;omega,by simp,by simp,dA,(zA dE).trans (by congr 1;first | (simp;done) | (simp;omega))⟩;omega
     | false=>
      have oK:¬ (zD s (zD s p).2.2).1=7:=(by intro e;rw[e] at h7;cases h7);have pH:yB s (zD s p).2.2 7=(zD s p).2.2:=(by unfold yB;rw[if_neg (by rw[h7];decide)]);rw[pH] at bW;have dA:=eo.call mD bW gG;have dE:=zC ((zA bK).trans (if_neg oK));clear eo mD bW bK oK pH e3 ef;go_wp2_with fail;refine (yQ s _ num mv 6 b _ dA.dg gG dQ).mono ?_;rintro e w8 ⟨rfl,so,oq⟩;have bS:=dA.call so oq (by unfold yB;split;exact nG;exact gG);clear dA so oq;go_wp2_with fail;go_ret;refine⟨?_,_,by rw[zA dE];exact bS⟩;rw[zA dE]
      show Ending.returned (Value.bool ((zD s (zD s p).2.2).1==6))=Ending.returned (Value.bool (decide ((zD s (zD s p).2.2).1=6)))
      rw[Bool.eq_iff_iff.2 (by simp:(((zD s (zD s p).2.2).1==6)=true↔decide ((zD s (zD s p).2.2).1=6)=true))]
    ·by_cases fB:(zD s p).1=3
     ·have hk:=fB;clear fB cN;have bK:=zC ((zA fS).trans (if_pos (Or.inr hk)));have Em:decide ((zD s p).1=3)=true:=(by rw[hk];rfl);go_wp2_with fail;refine (z74 s p num mv b _ hinv.dg dP hs hk).mono ?_;rintro e w1 ⟨rfl,de,ez⟩;have gG:=(xD s p dP).2;have cG:=hinv.call de ez gG;have d3:=cG.mc.c3;have fP:=cG.own;have C5:=cG.mc.lt;rw[Em] at bK;have G5:=zC hk;clear fS de ez hinv hk Em;unfold zdg;simp only[if_true];go_wp2_with (at_builtin;refine wpList_append_own _ rfl _ _ 77 rfl w.heap.size 191 i0 _ 1 16 Tryz.underlying77 hi dK cB bZ rfl (by decide) _ _ _ rfl (fP.alloc _) ⟨w1.heap.size,0,none⟩ 1 1 [zdg true (yT s p)] rfl rfl (zug w1 _) (z20 _ _) (by unfold maxLen;omega) (by omega) (by have:=cG.kept.size;simp;omega) ?_);intro v5 w5 hown5 dz hne5;clear hne5;obtain⟨a5,gz,rfl⟩:=zE hown5;obtain⟨eo,lZ⟩:=cG.append (true,yT s p) hown5 dz;have e3:=lZ.c3;have ef:=lZ.fz 3;clear hown5 dz d3 fP cG lZ;go_wp2_with fail;refine (yQ s _ num mv 7 b _ eo.dg gG dQ).mono ?_;rintro e w7 ⟨rfl,mD,bW⟩;have nG:=(xD s (zD s p).2.2 gG).2
      cases h7:((zD s (zD s p).2.2).1==7) with
      | true=>
       have oK:(zD s (zD s p).2.2).1=7:=eq_of_beq h7;have pH:yB s (zD s p).2.2 7=(zD s (zD s p).2.2).2.2:=(by unfold yB;rw[if_pos h7]);rw[pH] at bW;have dA:=eo.call mD bW nG;have dE:=zC ((zA bK).trans (if_pos oK));clear eo mD bW bK oK pH e3 ef;go_wp2_with fail;go_roundg (5-(l.length+1));exact⟨_,_,_,_,by simp;omega,by simp,by simp,dA,(zA dE).trans (by congr 1;first | (simp;done) | (simp;omega))⟩;omega
      | false=>
       have oK:¬ (zD s (zD s p).2.2).1=7:=(by intro e;rw[e] at h7;cases h7);have pH:yB s (zD s p).2.2 7=(zD s p).2.2:=(by unfold yB;rw[if_neg (by rw[h7];decide)]);rw[pH] at bW;have dA:=eo.call mD bW gG;have dE:=zC ((zA bK).trans (if_neg oK));clear eo mD bW bK oK pH e3 ef;go_wp2_with fail;refine (yQ s _ num mv 6 b _ dA.dg gG dQ).mono ?_;rintro e w8 ⟨rfl,so,oq⟩;have bS:=dA.call so oq (by unfold yB;split;exact nG;exact gG);clear dA so oq;go_wp2_with fail;go_ret;refine⟨?_,_,by rw[zA dE];exact bS⟩;rw[zA dE]
       show Ending.returned (Value.bool ((zD s (zD s p).2.2).1==6))=Ending.returned (Value.bool (decide ((zD s (zD s p).2.2).1=6)))
       rw[Bool.eq_iff_iff.2 (by simp:(((zD s (zD s p).2.2).1==6)=true↔decide ((zD s (zD s p).2.2).1=6)=true))]
     ·have bK:=zC ((zA fS).trans (if_neg (by intro h;rcases h with h | h;exact cN h;exact fB h)));clear fS;go_wp2_with fail;refine (ybl s p num mv b _ hinv.dg dP hs cN fB).mono ?_;rintro e w1 ⟨rfl,de,ez⟩;have cG:=hinv.call de ez dP;clear de ez hinv cN fB;go_wp2_with fail;go_ret;exact⟨by rw[zA bK];rfl,_,by rw[zA bK];exact cG⟩
  ·have fS:=zC (show zR s 4 pos [] pl=(false,p,l,cH) by rw[zA HF,show 4-l.length=0 from by omega,zR]);have sr:¬ (l.length:Int)<4:=(by omega);clear HF;go_wp2_with fail;go_ret;exact⟨by rw[zA fS];rfl,_,by rw[zA fS];exact hinv⟩
end
section
open Go.RowKit
structure yU where
 num:Nat
 neg:Bool
 pd:B8
 ts:List (Bool × B8)
 start:Nat
 place:Nat
 pl:Nat->Nat
def yU.cells (M:yU)(tv:Value):V8:=[.int .i64 M.num,.bool M.neg,.string M.pd,tv,.int .i64 M.start,.int .i64 M.place,.int .i64 (M.pl 0),.int .i64 (M.pl 1),.int .i64 (M.pl 2),.int .i64 (M.pl 3)]
def zag (ms:List (yU × Value)):V8:=ms.flatMap λ x=>x.1.cells x.2
structure aC (w:W8)(base:Nat)(mv:Value)(ms:List (yU × Value)):Prop where
 row:w.ownsRow base 221 10 mv ms.length (zag ms)
 each:∀ x∈ms,w.ownsRow base 191 1 x.2 x.1.ts.length (yP x.1.ts)
variable {ms:List (yU × Value)} {mv:Value} {base:Nat} {w w':W8} {B:List Nat}
theorem aC.kept (h:aC w base mv ms)(k:yC B w w')(hB:∀ x∈B,x<base\/w.heap.size<=x):aC w' base mv ms:=by
 have k':yC (B.filter (·<base)) w w':=⟨k.os,k.tape,k.output,k.size,λ i hi hn=>k.block i hi (λ hm=>by
  rcases hB i hm with h1 | h1
  ·exact hn (by simp[hm,h1])
  ·omega)⟩
 exact⟨za4 h.row k' (by simp),λ x hx=>za4 (h.each x hx) k' (by simp)⟩
inductive ydp where
 | no (pos:Nat)
 | yes (pos:Nat) (pd:B8) (ts:List (Bool × B8)) (pl:Nat->Nat)
def yV (s:B8)(pos:Nat):ydp:=
 if (zD s pos).1=2 then
  (if (zD s (zD s pos).2.2).1=5 then
   (if (zR s 4 (zD s (zD s pos).2.2).2.2 [] (λ _=>0)).1 then
    .yes (zR s 4 (zD s (zD s pos).2.2).2.2 [] (λ _=>0)).2.1 (yT s pos) (zR s 4 (zD s (zD s pos).2.2).2.2 [] (λ _=>0)).2.2.1 (zR s 4 (zD s (zD s pos).2.2).2.2 [] (λ _=>0)).2.2.2
   else .no (zR s 4 (zD s (zD s pos).2.2).2.2 [] (λ _=>0)).2.1)
  else .yes (zD s pos).2.2 (yT s pos) [] (λ _=>0))
 else .no pos
theorem z6r (w:W8)(num:Nat)(neg:Bool)(start place:Nat)(o:Obj):dW ((w.alloc o).alloc (.cells #[.int .i64 num,.bool neg,.string { data:=#[] },.slice none 0 0,.int .i64 start,.int .i64 place,.int .i64 0,.int .i64 0,.int .i64 0,.int .i64 0] 221)) (w.heap.size+1) num neg { data:=#[] } (.slice none 0 0) start place (λ _=>0):=by
 refine⟨by simp,?_,?_,?_,?_,?_,?_,λ i hi=>?_,λ o=>?_⟩
 all_goals first | (rw[World.cell?_alloc_at _ _ _ _ (by simp)];rfl) | (rw[World.frozen?_alloc_at _ _ _ _ (by simp)]) | skip
 rw[World.cell?_alloc_at _ _ _ _ (by simp)];have:i=0\/i=1\/i=2\/i=3:=by omega
 rcases this with rfl | rfl | rfl | rfl <;> rfl
structure RA (w:W8)(n:Nat):Prop where
 lt:n<w.heap.size
 c0:w.cell? ⟨n,0,none⟩=some (.string { data:=#[] })
 c1:w.cell? ⟨n,1,none⟩=some (.slice none 0 0)
 fz:∀ o,w.frozen? ⟨n,o,none⟩=false
variable {n:Nat}
theorem RA.kept (h:RA w n)(k:yC B w w')(hn:n∉B):RA w' n:=
 ⟨Nat.lt_of_lt_of_le h.lt k.size,(k.cell h.lt hn).trans h.c0,(k.cell h.lt hn).trans h.c1,λ o=>(k.frozen h.lt hn).trans (h.fz o)⟩
structure dD (w:W8)(b:Nat)(s:B8)(num:Nat)(mv:Value)(neg:Bool)(start place:Nat)(pd:B8)(tv:Value)(pl:Nat->Nat)(pos:Nat)(wr:W8):Prop where
 dg:dN wr b s pos num mv
 hp:pos<=s.size
 mc:dW wr (w.heap.size+1) num neg pd tv start place pl
 ra:RA wr w.heap.size
 kept:yC [b] w wr
 bw:b<w.heap.size
variable {wr w1:W8} {pos b:Nat} {tv:Value} {s:B8}
theorem dD.call {num:Nat}{neg:Bool}{start place:Nat}{pd:B8}{pl:Nat->Nat}{pos':Nat}(h:dD w b s num mv neg start place pd tv pl pos wr)(k:yC [b] wr w1)(hr:dN w1 b s pos' num mv)(hp:pos'<=s.size):dD w b s num mv neg start place pd tv pl pos' w1:=
 have h2:=h.bw
 ⟨hr,hp,h.mc.kept k (by simp;omega),h.ra.kept k (by simp;omega),h.kept.trans k,h.bw⟩
theorem dD.same {num:Nat}{neg:Bool}{start place:Nat}{pd:B8}{pl:Nat->Nat}(h:dD w b s num mv neg start place pd tv pl pos wr)(k:Below wr.heap.size wr w1):dD w b s num mv neg start place pd tv pl pos w1:=
 have kk:=(yC.refl [] wr).aF k
 ⟨h.dg.kept kk (by simp),h.hp,h.mc.kept kk (by simp),h.ra.kept kk (by simp),h.kept.aF k,h.bw⟩
theorem dD.pred {num:Nat}{neg:Bool}{start place:Nat}{pd:B8}{pl:Nat->Nat}(h:dD w b s num mv neg start place pd tv pl pos wr)(p:B8):dD w b s num mv neg start place p tv pl pos (wr.setCell ⟨w.heap.size+1,2,none⟩ (.string p)):=by
 have h2:=h.bw;have hm:=h.mc;have k:yC [w.heap.size+1] wr (wr.setCell ⟨w.heap.size+1,2,none⟩ (.string p)):=(yC.refl _ _).setCell (by simp) _;refine⟨h.dg.kept k (by simp;omega),h.hp,⟨by simpa using hm.lt,?_,?_,jX hm.c2,?_,?_,?_,λ i hi=>?_,λ o=>by simpa using hm.fz o⟩,h.ra.kept k (by simp),h.kept.setCell (.inr (by simp)) _,h.bw⟩
 ·rw[zS (by omega)];exact hm.c0
 ·rw[zS (by omega)];exact hm.c1
 ·rw[zS (by omega)];exact hm.c3
 ·rw[zS (by omega)];exact hm.c4
 ·rw[zS (by omega)];exact hm.c5
 ·rw[zS (by omega)];exact hm.cp i hi
theorem dD.start {num:Nat}(neg:Bool)(start:Nat)(h:dN w b s pos num mv)(hp:pos<=s.size):dD w b s num mv neg start (zD s pos).2.1 { data:=#[] } (.slice none 0 0) (λ _=>0) pos ((w.alloc (Obj.cells #[.string { data:=#[] },.slice none 0 0] 79)).alloc (Obj.cells #[.int IntKind.i64 ↑num,.bool neg,.string { data:=#[] },.slice none 0 0,.int IntKind.i64 ↑start,.int IntKind.i64 ↑(zD s pos).snd.fst,.int IntKind.i64 0,.int IntKind.i64 0,.int IntKind.i64 0,.int IntKind.i64 0] 221)).drew:=by
 have k:=(((yC.refl [] w).alloc (Obj.cells #[.string { data:=#[] },.slice none 0 0] 79)).alloc (Obj.cells #[.int IntKind.i64 ↑num,.bool neg,.string { data:=#[] },.slice none 0 0,.int IntKind.i64 ↑start,.int IntKind.i64 ↑(zD s pos).snd.fst,.int IntKind.i64 0,.int IntKind.i64 0,.int IntKind.i64 0,.int IntKind.i64 0] 221)).drew;refine⟨h.kept k (by simp),hp,(z6r w num neg start (zD s pos).2.1 _).kept ((yC.refl [] _).drew) (by simp),?_,k.mono (by simp),h.lt⟩;refine RA.kept ⟨by simp;omega,?_,?_,λ o=>?_⟩ ((yC.refl [] _).drew) (by simp)
 ·rw[World.cell?_alloc_past _ _ _ (by simp),World.cell?_alloc_at _ _ _ _ rfl];rfl
 ·rw[World.cell?_alloc_past _ _ _ (by simp),World.cell?_alloc_at _ _ _ _ rfl];rfl
 ·rw[World.frozen?_alloc_past _ _ _ (by simp),World.frozen?_alloc_at _ _ _ _ rfl]
theorem ydt (h:RA w1 n)(v0 v1:Value):((w1.setCell ⟨n,0,none⟩ v0).setCell ⟨n,1,none⟩ v1).cell? ⟨n,0,none⟩=some v0/\((w1.setCell ⟨n,0,none⟩ v0).setCell ⟨n,1,none⟩ v1).cell? ⟨n,1,none⟩=some v1:=
 ⟨by rw[zS (by omega)];exact jX h.c0,jX (by rw[zS (by omega)];exact h.c1)⟩
theorem zpr (ms:List (yU × Value))(M:yU)(tv:Value):zag (ms++[(M,tv)])=zag ms++M.cells tv:=by simp[zag]
theorem z16 (M:yU)(a:O8)(n c:Nat):∀ u∈M.cells (.slice a n c),u.oneCell'=true:=by
 intro u hu;simp[yU.cells] at hu;rcases hu with rfl | rfl | rfl | rfl | rfl | rfl | rfl | rfl | rfl | rfl <;> rfl
theorem yag {g cap:Nat}(hd:(Value.slice (some ⟨g,0,none⟩) n cap).ownBlock=none\/(Value.slice (some ⟨g,0,none⟩) n cap).ownBlock≠mv.ownBlock):g∉mv.ownBlock.toList:=λ hm=>by
 have lY:mv.ownBlock=some g:=by simpa using hm
 rcases hd with hd | hd
 ·cases hd
 ·exact hd (by rw[lY];rfl)
theorem z15 {W w5:W8}{num:Nat}{neg:Bool}{start place:Nat}{pd:B8}{pl:Nat->Nat}{ts:List (Bool × B8)}{v':Value}
  (h:dD w b s num mv neg start place pd tv pl pos wr) (eX:aC wr (b+1) mv ms) (Az:∀ k,mv.ownBlock=some k->k<w.heap.size) (jh:wr.ownsRow w.heap.size 191 1 tv ts.length (yP ts))
  (hW:∀ k,k<wr.heap.size->W.heap[k]?=wr.heap[k]?) (hS:wr.heap.size<=W.heap.size) (zb:W.os=wr.os) (J8:W.tape=wr.tape) (JU:W.output=wr.output) (hg:W.grownBy w5 mv.ownBlock)
  (aI:w5.ownsRow (b+1) 221 10 v' (ms.length+1) (zag ms++(yU.mk num neg pd ts start place pl).cells tv)):
  yC (b::mv.ownBlock.toList) w (w5.setCell ⟨b,5,none⟩ v')/\dN (w5.setCell ⟨b,5,none⟩ v') b s pos num v'/\aC (w5.setCell ⟨b,5,none⟩ v') (b+1) v' (ms++[(⟨num,neg,pd,ts,start,place,pl⟩,tv)])/\(w5.setCell ⟨b,5,none⟩ v').ownsRow w.heap.size 191 1 tv ts.length (yP ts)/\RA (w5.setCell ⟨b,5,none⟩ v') w.heap.size/\dW (w5.setCell ⟨b,5,none⟩ v') (w.heap.size+1) num neg pd tv start place pl/\dN w5 b s pos num mv:=by
 have ei:=h.bw;have hs5:=hg.size;have k5:yC mv.ownBlock.toList wr w5:=⟨hg.os.trans zb,hg.tape.trans J8,hg.output.trans JU,by omega,λ k hk hn=>(hg.block k (by omega) (λ e=>hn (by rw[<-e];simp))).trans (hW k hk)⟩;have yi:b∉mv.ownBlock.toList:=λ hm=>by
  have:=(eX.row.lt b (by simpa using hm)).1;omega
 have LU:∀ x,w.heap.size<=x->x∉mv.ownBlock.toList:=λ x hx hm=>by
  have:=Az x (by simpa using hm);omega
 have kb:yC [b] w5 (w5.setCell ⟨b,5,none⟩ v'):=(yC.refl _ _).setCell (by simp) _;have r5:=h.dg.kept k5 yi;have lA:∀ {base:Nat} {v:Value} {n:Nat} {xs:V8},b+1<=base->wr.ownsRow base 191 1 v n xs->(w5.setCell ⟨b,5,none⟩ v').ownsRow base 191 1 v n xs:=by
  intro base v n xs iB hx;have hd:=yc9 hx eX.row (by decide);refine⟨hx.1,?_⟩;rcases hx.2 with hn | ⟨g,cap,cur,rfl,hb,dn,rest⟩
  ·exact .inl hn
  ·have hl:=(Array.getElem?_eq_some_iff.1 dn).1;refine .inr ⟨g,cap,cur,rfl,hb,?_,rest⟩;rw[Below.heap_setCell _ _ _ _ (by simp;omega),k5.block g hl (yag hd),dn]
 refine⟨?_,?_,⟨?_,λ x hx=>?_⟩,lA (by omega) jh,(h.ra.kept k5 (LU _ L9)).kept kb (by simp;omega),(h.mc.kept k5 (LU _ (by omega))).kept kb (by simp;omega),r5⟩
 ·have k1:yC (b::mv.ownBlock.toList) w wr:=h.kept.mono (by simp);exact (k1.trans (k5.mono (by simp;intro k hk;exact .inl (.inr hk)))).setCell (by simp) _
 ·obtain⟨q,c0,c1,c2,c3,c4,c5,fz⟩:=r5;exact⟨by simpa using q,by rw[zS (by omega)];exact c0,by rw[zS (by omega)];exact c1,by rw[zS (by omega)];exact c2,by rw[zS (by omega)];exact c3,by rw[zS (by omega)];exact c4,jX c5,λ o=>by simpa using fz o⟩
 ·rw[zpr,List.length_append];exact ownsRow_setCell_below aI (by simp) _
 ·rcases List.mem_append.1 hx with hx | hx
  ·exact lA L9 (eX.each x hx)
  ·simp at hx;subst hx;exact zI (lA (by omega) jh) (by omega)
theorem za8 (w:W8)(n:Nat)(v0 v1:Value):yC [n] w ((w.setCell ⟨n,0,none⟩ v0).setCell ⟨n,1,none⟩ v1):=((yC.refl _ _).setCell (by simp) _).setCell (by simp) _
variable {n0:Nat}
theorem jL {e:TypeId}{size:Nat}{v:Value}{xs:V8}(h:w.ownsRow base e size v n xs)(k:yC [n0] w w')(hn:∀ g,v.ownBlock=some g->g≠n0):w'.ownsRow base e size v n xs:=by
 refine⟨h.1,?_⟩;rcases h.2 with hx | ⟨g,cap,cur,rfl,hb,dn,rest⟩
 ·exact .inl hx
 ·refine .inr ⟨g,cap,cur,rfl,hb,?_,rest⟩;rw[k.block g (Array.getElem?_eq_some_iff.1 dn).1 (by simp;exact hn g rfl)];exact dn
theorem zt4 (h:aC w base mv ms)(k:yC [n0] w w')(hm:∀ g,mv.ownBlock=some g->g≠n0)(ht:∀ x∈ms,∀ g,x.2.ownBlock=some g->g≠n0):aC w' base mv ms:=
 ⟨jL h.row k hm,λ x hx=>jL (h.each x hx) k (ht x hx)⟩
end
end Go.Proofs.YtldkpahaocjdpaaGreat
