/-
  The program's reader: word and term.
-/
import Derived.Test.YtldkpahaocjdpaaGreatC12
set_option maxHeartbeats 16000000
set_option maxRecDepth 1000000
namespace Go.Proofs.YtldkpahaocjdpaaGreat
section
open Go.RowKit
theorem R8 (s:B8)(pos:Nat):(xR s pos).size<=s.size:=by
 unfold xR;simp[ByteArray.size_extract];omega
theorem zdu (s:B8)(pos num:Nat)(mv:Value)(b:Nat)(w:W8)(h:ic w b s pos num mv)(aI:pos<=s.size)(hs:s.size<=2000000):
  Calls Tryz.prog 143 #[.pointer (some ⟨b,0,none⟩)] w λ e w'=>e=.returned (.string (xR s pos))/\Below w.heap.size w w':=by
 have h':=h;obtain⟨aG,c0,c1,c2,c3,c4,c5,fz⟩:=h;obtain⟨l1,l2⟩:=xT s pos aI;have l1I:((zG s pos).2.1:Int)<=((zG s pos).2.2:Int):=by omega
 have l2I:((zG s pos).2.2:Int)<=(s.size:Int):=by omega
 have hw:=R8 s pos;unfold xR at hw ⊢;have HC:=zC (λ w1=>zyp (s.extract (zG s pos).2.1 (zG s pos).2.2) (by omega) w1);clear hw;go_enter Tryz.func143,Tryz.ntmps143;go_wp2_with fail
 go_region_with (go_at_call 198;refine (zA HC _).mono ?_;rintro e w1 ⟨rfl,aM⟩)
 all_goals
  go_wp2_with fail;go_ret;exact⟨rfl,Below.nw aM⟩
def zhh (isVar:Bool)(text:B8):Value:=.iface (if isVar then 130 else 193) (.string text)
theorem z1x (s:B8)(pos num:Nat)(mv:Value)(b:Nat)(w:W8)(h:ic w b s pos num mv)(aI:pos<=s.size)(hs:s.size<=2000000)(hk:(zG s pos).1=2):
  Calls Tryz.prog 199 #[.pointer (some ⟨b,0,none⟩)] w λ e w'=>e=.returned (.tuple #[zhh false (xR s pos),.bool true])/\zN [b] w w'/\ic w' b s (zG s pos).2.2 num mv:=by
 have cE:s.size<=maxLen:=by unfold maxLen;omega
 have cy:((zG s pos).1==2)=true:=by rw[hk];rfl
 have ht:yU s pos 2=(zG s pos).2.2:=by unfold yU;rw[if_pos cy]
 have HT:=zC ht;clear hk ht;go_enter Tryz.func199,Tryz.ntmps199;go_wp2_with fail;refine (zdu s pos num mv b _ h aI hs).mono ?_;rintro e w1 ⟨rfl,aM⟩;have h1:=h.kept ((zN.refl [] w).ai aM) (by simp);go_wp2_with fail;refine (xO s pos num mv 2 b _ h1 aI cE).mono ?_;rintro e w2 ⟨rfl,tK,h2⟩;rw[zA HT] at h2;go_wp2_with fail
 go_ret2
 exact⟨rfl,((zN.refl [b] w).ai aM).trans tK,h2⟩
theorem z5f (s:B8)(pos num:Nat)(mv:Value)(b:Nat)(w:W8)(h:ic w b s pos num mv)(aI:pos<=s.size)(hs:s.size<=2000000)(hk:(zG s pos).1=3):
  Calls Tryz.prog 199 #[.pointer (some ⟨b,0,none⟩)] w λ e w'=>e=.returned (.tuple #[zhh true (xR s pos),.bool true])/\zN [b] w w'/\ic w' b s (zG s pos).2.2 num mv:=by
 have cE:s.size<=maxLen:=by unfold maxLen;omega
 have bg:((zG s pos).1==2)=false:=by rw[hk];rfl
 have cy:((zG s pos).1==3)=true:=by rw[hk];rfl
 have sq:yU s pos 2=pos:=by unfold yU;rw[if_neg (by rw[bg];decide)]
 have ht:yU s pos 3=(zG s pos).2.2:=by unfold yU;rw[if_pos cy]
 have HT:=zC ht;have O5:=zC sq;clear hk ht sq;go_enter Tryz.func199,Tryz.ntmps199;go_wp2_with fail;refine (zdu s pos num mv b _ h aI hs).mono ?_;rintro e w1 ⟨rfl,aM⟩;have h1:=h.kept ((zN.refl [] w).ai aM) (by simp);go_wp2_with fail;refine (xO s pos num mv 2 b _ h1 aI cE).mono ?_;rintro e w2 ⟨rfl,tK,h2⟩;rw[zA O5] at h2;go_wp2_with fail;refine (xO s pos num mv 3 b _ h2 aI cE).mono ?_;rintro e w3 ⟨rfl,GO,h3⟩;rw[zA HT] at h3;go_wp2_with fail
 go_ret2
 exact⟨rfl,(((zN.refl [b] w).ai aM).trans tK).trans GO,h3⟩
theorem z8f (s:B8)(pos num:Nat)(mv:Value)(b:Nat)(w:W8)(h:ic w b s pos num mv)(aI:pos<=s.size)(hs:s.size<=2000000)(Ug:¬ (zG s pos).1=2)(Nu:¬ (zG s pos).1=3):
  Calls Tryz.prog 199 #[.pointer (some ⟨b,0,none⟩)] w λ e w'=>e=.returned (.tuple #[.nilIface,.bool false])/\zN [b] w w'/\ic w' b s pos num mv:=by
 have cE:s.size<=maxLen:=by unfold maxLen;omega
 have bg:((zG s pos).1==2)=false:=by simp[Ug]
 have cy:((zG s pos).1==3)=false:=by simp[Nu]
 have sq:yU s pos 2=pos:=by unfold yU;rw[if_neg (by rw[bg];decide)]
 have ht:yU s pos 3=pos:=by unfold yU;rw[if_neg (by rw[cy];decide)]
 have HT:=zC ht;have O5:=zC sq;clear Ug Nu ht sq;go_enter Tryz.func199,Tryz.ntmps199;go_wp2_with fail;refine (zdu s pos num mv b _ h aI hs).mono ?_;rintro e w1 ⟨rfl,aM⟩;have h1:=h.kept ((zN.refl [] w).ai aM) (by simp);go_wp2_with fail;refine (xO s pos num mv 2 b _ h1 aI cE).mono ?_;rintro e w2 ⟨rfl,tK,h2⟩;rw[zA O5] at h2;go_wp2_with fail;refine (xO s pos num mv 3 b _ h2 aI cE).mono ?_;rintro e w3 ⟨rfl,GO,h3⟩;rw[zA HT] at h3;go_wp2_with fail
 go_ret2
 exact⟨rfl,(((zN.refl [b] w).ai aM).trans tK).trans GO,h3⟩
end
section
open Go.RowKit
structure xg (w:W8)(m num:Nat)(neg:Bool)(pd:B8)(tv:Value)(start place:Nat)(pl:Nat->Nat):Prop where
 lt:m<w.heap.size
 c0:w.cell? ⟨m,0,none⟩=some (.int .i64 num)
 c1:w.cell? ⟨m,1,none⟩=some (.bool neg)
 c2:w.cell? ⟨m,2,none⟩=some (.string pd)
 c3:w.cell? ⟨m,3,none⟩=some tv
 c4:w.cell? ⟨m,4,none⟩=some (.int .i64 start)
 c5:w.cell? ⟨m,5,none⟩=some (.int .i64 place)
 cp:∀ i,i<4->w.cell? ⟨m,6+i,none⟩=some (.int .i64 (pl i))
 fz:∀ o,w.frozen? ⟨m,o,none⟩=false
variable {pl:Nat->Nat} {start m num:Nat} {tv:Value} {pd:B8} {neg:Bool} {w:W8}
theorem xg.kept {B:List Nat}{w':W8}{place:Nat}(h:xg w m num neg pd tv start place pl)(k:zN B w w')(hn:m∉B):xg w' m num neg pd tv start place pl:=
 ⟨Nat.lt_of_lt_of_le h.lt k.size,(k.cell h.lt hn).trans h.c0,(k.cell h.lt hn).trans h.c1,(k.cell h.lt hn).trans h.c2,(k.cell h.lt hn).trans h.c3,(k.cell h.lt hn).trans h.c4,(k.cell h.lt hn).trans h.c5,λ i hi=>(k.cell h.lt hn).trans (h.cp i hi),λ o=>(k.frozen h.lt hn).trans (h.fz o)⟩
def je (pl:Nat->Nat)(i v:Nat):Nat->Nat:=λ a=>if a=i then v else pl a
variable {v:Value} {b o:Nat}
theorem jR {u:Value}(h:w.cell? ⟨b,o,none⟩=some u):(w.setCell ⟨b,o,none⟩ v).cell? ⟨b,o,none⟩=some v:=by go_simp
theorem yC {b' o':Nat}(h:¬ (b=b'/\o=o')):(w.setCell ⟨b,o,none⟩ v).cell? ⟨b',o',none⟩=w.cell? ⟨b',o',none⟩:=by
 by_cases hb:b=b'
 ·subst hb;have ho:o≠o':=λ e=>h ⟨rfl,e⟩
  unfold World.cell? World.setCell;simp only[Array.getElem?_modify,if_true]
  cases w.heap[b]? with
  | none=>rfl
  | some x=>cases x <;> simp[ho]
 ·exact World.cell?_of_block (w:=w) (Below.heap_setCell w ⟨b,o,none⟩ v b' (by simp;omega))
theorem xg.je {w:W8}{m num:Nat}{neg:Bool}{pd:B8}{tv:Value}{start place:Nat}{pl:Nat->Nat}(h:xg w m num neg pd tv start place pl)(i v:Nat)(hi:i<4):xg (w.setCell ⟨m,6+i,none⟩ (.int .i64 v)) m num neg pd tv start place (Go.Proofs.YtldkpahaocjdpaaGreat.je pl i v):=by
 refine⟨by simpa using h.lt,?_,?_,?_,?_,?_,?_,λ a ha=>?_,λ o=>by simpa using h.fz o⟩
 ·rw[yC (by omega)];exact h.c0
 ·rw[yC (by omega)];exact h.c1
 ·rw[yC (by omega)];exact h.c2
 ·rw[yC (by omega)];exact h.c3
 ·rw[yC (by omega)];exact h.c4
 ·rw[yC (by omega)];exact h.c5
 ·by_cases e:a=i
  ·subst e;rw[jR (h.cp a ha)];simp[Go.Proofs.YtldkpahaocjdpaaGreat.je]
  ·rw[yC (by omega),h.cp a ha];simp[Go.Proofs.YtldkpahaocjdpaaGreat.je,e]
theorem xg.MC {place:Nat}(h:xg w m num neg pd tv start place pl)(v:Value):xg (w.setCell ⟨m,3,none⟩ v) m num neg pd v start place pl:=by
 refine⟨by simpa using h.lt,?_,?_,?_,jR h.c3,?_,?_,λ a ha=>?_,λ o=>by simpa using h.fz o⟩
 ·rw[yC (by omega)];exact h.c0
 ·rw[yC (by omega)];exact h.c1
 ·rw[yC (by omega)];exact h.c2
 ·rw[yC (by omega)];exact h.c4
 ·rw[yC (by omega)];exact h.c5
 ·rw[yC (by omega)];exact h.cp a ha
def vI (l:List (Bool × B8)):V8:=l.map λ t=>zhh t.1 t.2
def yE (s:B8):Nat->Nat->List (Bool × B8)->(Nat->Nat)->Bool × Nat × List (Bool × B8) × (Nat->Nat)
 | 0,pos,l,pl=>(false,pos,l,pl)
 | f+1,pos,l,pl=>
  if (zG s pos).1=2\/(zG s pos).1=3 then
   (if (zG s (zG s pos).2.2).1=7 then yE s f (zG s (zG s pos).2.2).2.2 (l++[(decide ((zG s pos).1=3),xR s pos)]) (je pl l.length (zG s pos).2.1)
   else (decide ((zG s (zG s pos).2.2).1=6),yU s (zG s pos).2.2 6,l++[(decide ((zG s pos).1=3),xR s pos)],je pl l.length (zG s pos).2.1))
  else (false,pos,l,je pl l.length (zG s pos).2.1)
structure uJ (w:W8)(b m:Nat)(s:B8)(num:Nat)(mv:Value)(rn:Nat)(neg:Bool)(pd:B8)(start place:Nat)(l:List (Bool × B8))(pos:Nat)(pl:Nat->Nat)(tv:Value)(wr:W8):Prop where
 eX:ic wr b s pos num mv
 hp:pos<=s.size
 mc:xg wr m rn neg pd tv start place pl
 own:wr.ownsRow w.heap.size 191 1 tv l.length (vI l)
 kept:zN [b,m] w wr
 bm:b≠m
 bw:b<w.heap.size
 mw:m<w.heap.size
variable {wr w1:W8} {pos rn:Nat} {l:List (Bool × B8)} {mv:Value} {s:B8}
theorem uJ.call {place pos':Nat}(h:uJ w b m s num mv rn neg pd start place l pos pl tv wr)(k:zN [b] wr w1)(hr:ic w1 b s pos' num mv)(hp:pos'<=s.size):uJ w b m s num mv rn neg pd start place l pos' pl tv w1:=
 have h1:=h.bm;have h2:=h.bw
 ⟨hr,hp,h.mc.kept k (by simp;omega),yM h.own k (by simp;omega),h.kept.trans (k.mono (by simp)),h.bm,h.bw,h.mw⟩
theorem uJ.place {place:Nat}(h:uJ w b m s num mv rn neg pd start place l pos pl tv wr)(i v:Nat)(hi:i<4):uJ w b m s num mv rn neg pd start place l pos (je pl i v) tv (wr.setCell ⟨m,6+i,none⟩ (.int .i64 v)):=
 have h1:=h.bm;have h3:=h.mw
 ⟨h.eX.kept ((zN.refl [m] _).setCell (by simp) _) (by simp;omega),h.hp,h.mc.je i v hi,ownsRow_setCell_below h.own (by simpa using h3) _,h.kept.setCell (by simp) _,h.bm,h.bw,h.mw⟩
theorem uJ.drew {w:W8}{b m:Nat}{s:B8}{num:Nat}{mv:Value}{rn:Nat}{neg:Bool}{pd:B8}{start place:Nat}{l:List (Bool × B8)}{pos:Nat}{pl:Nat->Nat}{tv:Value}{wr:W8}(h:uJ w b m s num mv rn neg pd start place l pos pl tv wr):uJ w b m s num mv rn neg pd start place l pos pl tv wr.drew:=
 have k:=(zN.refl [] wr).drew
 ⟨h.eX.kept k (by simp),h.hp,h.mc.kept k (by simp),yM h.own k (by simp),h.kept.drew,h.bm,h.bw,h.mw⟩
theorem uJ.append {place:Nat}{w5:W8}(h:uJ w b m s num mv rn neg pd start place l pos pl tv w1){o1:Obj}{v':Value}(t:Bool × B8)
  (aC:w5.ownsRow w.heap.size 191 1 v' (l.length+1) (vI l++[zhh t.1 t.2])) (hg:(w1.alloc o1).grownBy w5 tv.ownBlock):
  uJ w b m s num mv rn neg pd start place (l++[t]) pos pl v' (w5.setCell ⟨m,3,none⟩ v')/\xg w5 m rn neg pd tv start place pl:=by
 have h1:=h.bm;have h2:=h.bw;have h3:=h.mw;have aB:∀ k,tv.ownBlock=some k->w.heap.size<=k:=λ k e=>(h.own.lt k e).1
 have k5:zN tv.ownBlock.toList w1 w5:=((zN.refl _ w1).alloc o1).grown hg (λ k e=>.inr (by simp[e]));have lJ:∀ k,k<w.heap.size->k∉tv.ownBlock.toList:=by
  intro k hk hm
  cases hv:tv.ownBlock with
  | none=>simp[hv] at hm
  | some x=>simp[hv] at hm;have:=aB x hv;omega
 have m5:=h.mc.kept k5 (lJ _ h3);refine⟨⟨(h.eX.kept k5 (lJ _ h2)).kept ((zN.refl [m] _).setCell (by simp) _) (by simp;omega),h.hp,m5.MC v',?_,?_,h.bm,h.bw,h.mw⟩,m5⟩
 ·have:=ownsRow_setCell_below aC (a:=⟨m,3,none⟩) (by simpa using h3) v';simpa[vI] using this
 ·exact ((h.kept.alloc o1).grown hg (λ k e=>.inl (aB k e))).setCell (by simp) _
end
section
open Go.RowKit
theorem zzi:(Tryz.prog.info? 191).map (λ i=>(i.zero,i.size,i.bytes))=some (some .nilIface,1,16):=by kernel_rfl
theorem z00 (w1:W8)(v:Value):∀ j u,([v]:V8)[j]?=some u->(w1.alloc (.cells #[v] 191)).cell? ((⟨w1.heap.size,0,none⟩:Addr).add j)=some u:=by
 intro j u hj;have e:(⟨w1.heap.size,0,none⟩:Addr).add j=⟨w1.heap.size,j,none⟩:=by unfold Addr.add;split <;> simp_all
 rw[e,World.cell?_alloc_at _ _ _ _ rfl];simpa using hj
theorem z59 (v:Bool)(t:B8):∀ u∈[zhh v t],u.oneCell'=true:=by
 intro u hu;simp at hu;subst hu;rfl
theorem zqx (w:W8)(b m:Nat)(s:B8)(pos num:Nat)(mv:Value)(rn:Nat)(neg:Bool)(pd:B8)(start place:Nat)(pl:Nat->Nat)(hr:ic w b s pos num mv)(hm:xg w m rn neg pd (.slice none 0 0) start place pl)(Nq:b≠m)(aI:pos<=s.size)(hs:s.size<=2000000):
  Calls Tryz.prog 144 #[.pointer (some ⟨b,0,none⟩),.pointer (some ⟨m,0,none⟩)] w λ e w'=>e=.returned (.bool (yE s 4 pos [] pl).1)/\∃ tv,uJ w b m s num mv rn neg pd start place (yE s 4 pos [] pl).2.2.1 (yE s 4 pos [] pl).2.1 (yE s 4 pos [] pl).2.2.2 tv w':=by
 obtain⟨i0,hi,cQ,cz,cx⟩:=info_parts zzi;have cE:s.size<=maxLen:=by unfold maxLen;omega
 have h0:uJ w b m s num mv rn neg pd start place [] pos pl (.slice none 0 0) w:=⟨hr,aI,hm,World.ownsRow_nil _ _ _ _,zN.refl _ _,Nq,hr.lt,hm.lt⟩;clear hr hm;go_enter Tryz.func144,Tryz.ntmps144;go_wp2_with fail
 go_loopg [5,6,7,8] 5 (λ gg i5 t6 ok7 i8 wr=>∃ (l:List (Bool × B8)) (p:Nat) (Hv:Nat->Nat) (tv:Value),l.length<=4/\gg=5-l.length/\i8=.int .i64 l.length/\uJ w b m s num mv rn neg pd start place l p Hv tv wr/\yE s 4 pos [] pl=yE s (4-l.length) p l Hv)
 exact⟨[],pos,pl,_,by simp,rfl,rfl,h0,rfl⟩
 case round=>
  clear h0;obtain⟨l,p,Hv,tv,Fo,dI,rfl,hinv,ax⟩:=hrel;have HF:=zC ax;clear ax;obtain⟨a0,dS,rfl⟩:=zD hinv.own
  by_cases hl:l.length<4
  ·have nR:(l.length:Int)<4:=(by omega);have fy:yE s (4-l.length) p l Hv=yE s ((3-l.length)+1) p l Hv:=(by congr 1;omega);have kM:=zC ((zA HF).trans (fy.trans (by rw[yE])));obtain⟨Ly,c0,c1,c2,c3,c4,c5,fz⟩:=hinv.eX;have YW:=hinv.mc.cp l.length hl;have YX:=hinv.mc.fz (6+l.length);have NA:=hinv.mw;have b8:=hinv.hp;have HI:=zC hinv;clear HF hinv fy;go_upto_region 4 with fail
   go_cut [] (λ wc=>uJ w b m s num mv rn neg pd start place l p (je Hv l.length (zG s p).2.1) (.slice a0 l.length dS) wc)
   case first=>
    go_region
    all_goals
     go_wp2_with fail;go_meet
     case rel=>exact ((zA HI).place l.length (zG s p).2.1 hl).drew
   case rest=>
    have hinv:=hcut;clear hcut HI c0 c1 c2 c3 c4 c5 fz YW YX
    by_cases cy:(zG s p).1=2
    ·have hk:=cy;clear cy;have az:=zC ((zA kM).trans (if_pos (Or.inl hk)));have Lb:decide ((zG s p).1=3)=false:=(by rw[hk];rfl);go_wp2_with fail;refine (z1x s p num mv b _ hinv.eX b8 hs hk).mono ?_;rintro e w1 ⟨rfl,bg,lK⟩;have cF:=(xT s p b8).2;have aD:=hinv.call bg lK cF;have d3:=aD.mc.c3;have aS:=aD.own;have QI:=aD.mc.lt;rw[Lb] at az;have Vp:=zC hk;clear kM bg lK hinv hk Lb;unfold zhh;simp only[if_false,Bool.false_eq_true];go_wp2_with (at_builtin;refine wpList_append_own _ rfl _ _ 77 rfl w.heap.size 191 i0 _ 1 16 Tryz.underlying77 hi cQ cz cx rfl (by decide) _ _ _ rfl (aS.alloc _) ⟨w1.heap.size,0,none⟩ 1 1 [zhh false (xR s p)] rfl rfl (z00 w1 _) (z59 _ _) (by unfold maxLen;omega) (by omega) (by have:=aD.kept.size;simp;omega) ?_);intro v5 w5 aj aU hne5;clear hne5;obtain⟨a5,ie,rfl⟩:=zD aj;obtain⟨aF,vk⟩:=aD.append (false,xR s p) aj aU;have e3:=vk.c3;have ef:=vk.fz 3;clear aj aU d3 aS aD vk;go_wp2_with fail;refine (xO s _ num mv 7 b _ aF.eX cF cE).mono ?_;rintro e w7 ⟨rfl,ia,rI⟩;have iX:=(xT s (zG s p).2.2 cF).2
     cases h7:((zG s (zG s p).2.2).1==7) with
     | true=>
      have Bk:(zG s (zG s p).2.2).1=7:=eq_of_beq h7;have Cn:yU s (zG s p).2.2 7=(zG s (zG s p).2.2).2.2:=(by unfold yU;rw[if_pos h7]);rw[Cn] at rI;have aA:=aF.call ia rI iX;have aQ:=zC ((zA az).trans (if_pos Bk));clear aF ia rI az Bk Cn e3 ef;go_wp2_with fail;go_roundg (5-(l.length+1));exact⟨_,_,_,_,by simp;omega,by simp,by simp,aA,(zA aQ).trans (by congr 1;first | (simp;done) | (simp;omega))⟩;omega
     | false=>
      have Bk:¬ (zG s (zG s p).2.2).1=7:=(by intro e;rw[e] at h7;cases h7);have Cn:yU s (zG s p).2.2 7=(zG s p).2.2:=(by unfold yU;rw[if_neg (by rw[h7];decide)]);rw[Cn] at rI;have aA:=aF.call ia rI cF;have aQ:=zC ((zA az).trans (if_neg Bk));clear aF ia rI az Bk Cn e3 ef;go_wp2_with fail;refine (xO s _ num mv 6 b _ aA.eX cF cE).mono ?_;rintro e w8 ⟨rfl,kn,AM⟩;have cU:=aA.call kn AM (by unfold yU;split;exact iX;exact cF);clear aA kn AM;go_wp2_with fail;go_ret;refine⟨?_,_,by rw[zA aQ];exact cU⟩;rw[zA aQ]
      show Ending.returned (Value.bool ((zG s (zG s p).2.2).1==6))=Ending.returned (Value.bool (decide ((zG s (zG s p).2.2).1=6)))
      rw[Bool.eq_iff_iff.2 (by simp:(((zG s (zG s p).2.2).1==6)=true↔decide ((zG s (zG s p).2.2).1=6)=true))]
    ·by_cases mf:(zG s p).1=3
     ·have hk:=mf;clear mf cy;have az:=zC ((zA kM).trans (if_pos (Or.inr hk)));have Lb:decide ((zG s p).1=3)=true:=(by rw[hk];rfl);go_wp2_with fail;refine (z5f s p num mv b _ hinv.eX b8 hs hk).mono ?_;rintro e w1 ⟨rfl,bg,lK⟩;have cF:=(xT s p b8).2;have aD:=hinv.call bg lK cF;have d3:=aD.mc.c3;have aS:=aD.own;have QI:=aD.mc.lt;rw[Lb] at az;have Vp:=zC hk;clear kM bg lK hinv hk Lb;unfold zhh;simp only[if_true];go_wp2_with (at_builtin;refine wpList_append_own _ rfl _ _ 77 rfl w.heap.size 191 i0 _ 1 16 Tryz.underlying77 hi cQ cz cx rfl (by decide) _ _ _ rfl (aS.alloc _) ⟨w1.heap.size,0,none⟩ 1 1 [zhh true (xR s p)] rfl rfl (z00 w1 _) (z59 _ _) (by unfold maxLen;omega) (by omega) (by have:=aD.kept.size;simp;omega) ?_);intro v5 w5 aj aU hne5;clear hne5;obtain⟨a5,ie,rfl⟩:=zD aj;obtain⟨aF,vk⟩:=aD.append (true,xR s p) aj aU;have e3:=vk.c3;have ef:=vk.fz 3;clear aj aU d3 aS aD vk;go_wp2_with fail;refine (xO s _ num mv 7 b _ aF.eX cF cE).mono ?_;rintro e w7 ⟨rfl,ia,rI⟩;have iX:=(xT s (zG s p).2.2 cF).2
      cases h7:((zG s (zG s p).2.2).1==7) with
      | true=>
       have Bk:(zG s (zG s p).2.2).1=7:=eq_of_beq h7;have Cn:yU s (zG s p).2.2 7=(zG s (zG s p).2.2).2.2:=(by unfold yU;rw[if_pos h7]);rw[Cn] at rI;have aA:=aF.call ia rI iX;have aQ:=zC ((zA az).trans (if_pos Bk));clear aF ia rI az Bk Cn e3 ef;go_wp2_with fail;go_roundg (5-(l.length+1));exact⟨_,_,_,_,by simp;omega,by simp,by simp,aA,(zA aQ).trans (by congr 1;first | (simp;done) | (simp;omega))⟩;omega
      | false=>
       have Bk:¬ (zG s (zG s p).2.2).1=7:=(by intro e;rw[e] at h7;cases h7);have Cn:yU s (zG s p).2.2 7=(zG s p).2.2:=(by unfold yU;rw[if_neg (by rw[h7];decide)]);rw[Cn] at rI;have aA:=aF.call ia rI cF;have aQ:=zC ((zA az).trans (if_neg Bk));clear aF ia rI az Bk Cn e3 ef;go_wp2_with fail;refine (xO s _ num mv 6 b _ aA.eX cF cE).mono ?_;rintro e w8 ⟨rfl,kn,AM⟩;have cU:=aA.call kn AM (by unfold yU;split;exact iX;exact cF);clear aA kn AM;go_wp2_with fail;go_ret;refine⟨?_,_,by rw[zA aQ];exact cU⟩;rw[zA aQ]
       show Ending.returned (Value.bool ((zG s (zG s p).2.2).1==6))=Ending.returned (Value.bool (decide ((zG s (zG s p).2.2).1=6)))
       rw[Bool.eq_iff_iff.2 (by simp:(((zG s (zG s p).2.2).1==6)=true↔decide ((zG s (zG s p).2.2).1=6)=true))]
     ·have az:=zC ((zA kM).trans (if_neg (by intro h;rcases h with h | h;exact cy h;exact mf h)));clear kM;go_wp2_with fail;refine (z8f s p num mv b _ hinv.eX b8 hs cy mf).mono ?_;rintro e w1 ⟨rfl,bg,lK⟩;have aD:=hinv.call bg lK b8;clear bg lK hinv cy mf;go_wp2_with fail;go_ret;exact⟨by rw[zA az];rfl,_,by rw[zA az];exact aD⟩
  ·have kM:=zC (show yE s 4 pos [] pl=(false,p,l,Hv) by rw[zA HF,show 4-l.length=0 from by omega,yE]);have nR:¬ (l.length:Int)<4:=(by omega);clear HF;go_wp2_with fail;go_ret;exact⟨by rw[zA kM];rfl,_,by rw[zA kM];exact hinv⟩
end
section
open Go.RowKit
structure xU where
 num:Nat
 neg:Bool
 pd:B8
 ts:List (Bool × B8)
 start:Nat
 place:Nat
 pl:Nat->Nat
def xU.cells (M:xU)(tv:Value):V8:=[.int .i64 M.num,.bool M.neg,.string M.pd,tv,.int .i64 M.start,.int .i64 M.place,.int .i64 (M.pl 0),.int .i64 (M.pl 1),.int .i64 (M.pl 2),.int .i64 (M.pl 3)]
def zap (ms:List (xU × Value)):V8:=ms.flatMap λ x=>x.1.cells x.2
structure iQ (w:W8)(base:Nat)(mv:Value)(ms:List (xU × Value)):Prop where
 row:w.ownsRow base 221 10 mv ms.length (zap ms)
 each:∀ x∈ms,w.ownsRow base 191 1 x.2 x.1.ts.length (vI x.1.ts)
variable {ms:List (xU × Value)} {mv:Value} {base:Nat} {w w':W8} {B:List Nat}
theorem iQ.kept (h:iQ w base mv ms)(k:zN B w w')(hB:∀ x∈B,x<base\/w.heap.size<=x):iQ w' base mv ms:=by
 have k':zN (B.filter (·<base)) w w':=⟨k.os,k.tape,k.output,k.size,λ i hi hn=>k.block i hi (λ hm=>by
  rcases hB i hm with h1 | h1
  ·exact hn (by simp[hm,h1])
  ·omega)⟩
 exact⟨yM h.row k' (by simp),λ x hx=>yM (h.each x hx) k' (by simp)⟩
inductive z96 where
 | no (pos:Nat)
 | yes (pos:Nat) (pd:B8) (ts:List (Bool × B8)) (pl:Nat->Nat)
def x9 (s:B8)(pos:Nat):z96:=
 if (zG s pos).1=2 then
  (if (zG s (zG s pos).2.2).1=5 then
   (if (yE s 4 (zG s (zG s pos).2.2).2.2 [] (λ _=>0)).1 then
    .yes (yE s 4 (zG s (zG s pos).2.2).2.2 [] (λ _=>0)).2.1 (xR s pos) (yE s 4 (zG s (zG s pos).2.2).2.2 [] (λ _=>0)).2.2.1 (yE s 4 (zG s (zG s pos).2.2).2.2 [] (λ _=>0)).2.2.2
   else .no (yE s 4 (zG s (zG s pos).2.2).2.2 [] (λ _=>0)).2.1)
  else .yes (zG s pos).2.2 (xR s pos) [] (λ _=>0))
 else .no pos
theorem z35 (w:W8)(num:Nat)(neg:Bool)(start place:Nat)(o:Obj):xg ((w.alloc o).alloc (.cells #[.int .i64 num,.bool neg,.string { data:=#[] },.slice none 0 0,.int .i64 start,.int .i64 place,.int .i64 0,.int .i64 0,.int .i64 0,.int .i64 0] 221)) (w.heap.size+1) num neg { data:=#[] } (.slice none 0 0) start place (λ _=>0):=by
 refine⟨by simp,?_,?_,?_,?_,?_,?_,λ i hi=>?_,λ o=>?_⟩
 all_goals first | (rw[World.cell?_alloc_at _ _ _ _ (by simp)];rfl) | (rw[World.frozen?_alloc_at _ _ _ _ (by simp)]) | skip
 rw[World.cell?_alloc_at _ _ _ _ (by simp)];have:i=0\/i=1\/i=2\/i=3:=by omega
 rcases this with rfl | rfl | rfl | rfl <;> rfl
structure RA (w:W8)(n:Nat):Prop where
 lt:n<w.heap.size
 c0:w.cell? ⟨n,0,none⟩=some (.string { data:=#[] })
 c1:w.cell? ⟨n,1,none⟩=some (.slice none 0 0)
 fz:∀ o,w.frozen? ⟨n,o,none⟩=false
variable {n:Nat}
theorem RA.kept (h:RA w n)(k:zN B w w')(hn:n∉B):RA w' n:=
 ⟨Nat.lt_of_lt_of_le h.lt k.size,(k.cell h.lt hn).trans h.c0,(k.cell h.lt hn).trans h.c1,λ o=>(k.frozen h.lt hn).trans (h.fz o)⟩
structure tg (w:W8)(b:Nat)(s:B8)(num:Nat)(mv:Value)(neg:Bool)(start place:Nat)(pd:B8)(tv:Value)(pl:Nat->Nat)(pos:Nat)(wr:W8):Prop where
 eX:ic wr b s pos num mv
 hp:pos<=s.size
 mc:xg wr (w.heap.size+1) num neg pd tv start place pl
 ra:RA wr w.heap.size
 kept:zN [b] w wr
 bw:b<w.heap.size
variable {wr w1:W8} {pos b:Nat} {tv:Value} {s:B8}
theorem tg.call {num:Nat}{neg:Bool}{start place:Nat}{pd:B8}{pl:Nat->Nat}{pos':Nat}(h:tg w b s num mv neg start place pd tv pl pos wr)(k:zN [b] wr w1)(hr:ic w1 b s pos' num mv)(hp:pos'<=s.size):tg w b s num mv neg start place pd tv pl pos' w1:=
 have h2:=h.bw
 ⟨hr,hp,h.mc.kept k (by simp;omega),h.ra.kept k (by simp;omega),h.kept.trans k,h.bw⟩
theorem tg.same {num:Nat}{neg:Bool}{start place:Nat}{pd:B8}{pl:Nat->Nat}(h:tg w b s num mv neg start place pd tv pl pos wr)(k:Below wr.heap.size wr w1):tg w b s num mv neg start place pd tv pl pos w1:=
 have kk:=(zN.refl [] wr).ai k
 ⟨h.eX.kept kk (by simp),h.hp,h.mc.kept kk (by simp),h.ra.kept kk (by simp),h.kept.ai k,h.bw⟩
theorem tg.pred {num:Nat}{neg:Bool}{start place:Nat}{pd:B8}{pl:Nat->Nat}(h:tg w b s num mv neg start place pd tv pl pos wr)(p:B8):tg w b s num mv neg start place p tv pl pos (wr.setCell ⟨w.heap.size+1,2,none⟩ (.string p)):=by
 have h2:=h.bw;have hm:=h.mc;have k:zN [w.heap.size+1] wr (wr.setCell ⟨w.heap.size+1,2,none⟩ (.string p)):=(zN.refl _ _).setCell (by simp) _;refine⟨h.eX.kept k (by simp;omega),h.hp,⟨by simpa using hm.lt,?_,?_,jR hm.c2,?_,?_,?_,λ i hi=>?_,λ o=>by simpa using hm.fz o⟩,h.ra.kept k (by simp),h.kept.setCell (.inr (by simp)) _,h.bw⟩
 ·rw[yC (by omega)];exact hm.c0
 ·rw[yC (by omega)];exact hm.c1
 ·rw[yC (by omega)];exact hm.c3
 ·rw[yC (by omega)];exact hm.c4
 ·rw[yC (by omega)];exact hm.c5
 ·rw[yC (by omega)];exact hm.cp i hi
theorem tg.start {num:Nat}(neg:Bool)(start:Nat)(h:ic w b s pos num mv)(hp:pos<=s.size):tg w b s num mv neg start (zG s pos).2.1 { data:=#[] } (.slice none 0 0) (λ _=>0) pos ((w.alloc (Obj.cells #[.string { data:=#[] },.slice none 0 0] 79)).alloc (Obj.cells #[.int IntKind.i64 ↑num,.bool neg,.string { data:=#[] },.slice none 0 0,.int IntKind.i64 ↑start,.int IntKind.i64 ↑(zG s pos).snd.fst,.int IntKind.i64 0,.int IntKind.i64 0,.int IntKind.i64 0,.int IntKind.i64 0] 221)).drew:=by
 have k:=(((zN.refl [] w).alloc (Obj.cells #[.string { data:=#[] },.slice none 0 0] 79)).alloc (Obj.cells #[.int IntKind.i64 ↑num,.bool neg,.string { data:=#[] },.slice none 0 0,.int IntKind.i64 ↑start,.int IntKind.i64 ↑(zG s pos).snd.fst,.int IntKind.i64 0,.int IntKind.i64 0,.int IntKind.i64 0,.int IntKind.i64 0] 221)).drew;refine⟨h.kept k (by simp),hp,(z35 w num neg start (zG s pos).2.1 _).kept ((zN.refl [] _).drew) (by simp),?_,k.mono (by simp),h.lt⟩;refine RA.kept ⟨by simp;omega,?_,?_,λ o=>?_⟩ ((zN.refl [] _).drew) (by simp)
 ·rw[World.cell?_alloc_past _ _ _ (by simp),World.cell?_alloc_at _ _ _ _ rfl];rfl
 ·rw[World.cell?_alloc_past _ _ _ (by simp),World.cell?_alloc_at _ _ _ _ rfl];rfl
 ·rw[World.frozen?_alloc_past _ _ _ (by simp),World.frozen?_alloc_at _ _ _ _ rfl]
theorem z98 (h:RA w1 n)(v0 v1:Value):((w1.setCell ⟨n,0,none⟩ v0).setCell ⟨n,1,none⟩ v1).cell? ⟨n,0,none⟩=some v0/\((w1.setCell ⟨n,0,none⟩ v0).setCell ⟨n,1,none⟩ v1).cell? ⟨n,1,none⟩=some v1:=
 ⟨by rw[yC (by omega)];exact jR h.c0,jR (by rw[yC (by omega)];exact h.c1)⟩
theorem znp (ms:List (xU × Value))(M:xU)(tv:Value):zap (ms++[(M,tv)])=zap ms++M.cells tv:=by simp[zap]
theorem z0a (M:xU)(a:O8)(n c:Nat):∀ u∈M.cells (.slice a n c),u.oneCell'=true:=by
 intro u hu;simp[xU.cells] at hu;rcases hu with rfl | rfl | rfl | rfl | rfl | rfl | rfl | rfl | rfl | rfl <;> rfl
theorem z7b {g cap:Nat}(hd:(Value.slice (some ⟨g,0,none⟩) n cap).ownBlock=none\/(Value.slice (some ⟨g,0,none⟩) n cap).ownBlock≠mv.ownBlock):g∉mv.ownBlock.toList:=λ hm=>by
 have qp:mv.ownBlock=some g:=by simpa using hm
 rcases hd with hd | hd
 ·cases hd
 ·exact hd (by rw[qp];rfl)
theorem zz9 {W w5:W8}{num:Nat}{neg:Bool}{start place:Nat}{pd:B8}{pl:Nat->Nat}{ts:List (Bool × B8)}{v':Value}
  (h:tg w b s num mv neg start place pd tv pl pos wr) (lg:iQ wr (b+1) mv ms) (NA:∀ k,mv.ownBlock=some k->k<w.heap.size) (NP:wr.ownsRow w.heap.size 191 1 tv ts.length (vI ts))
  (hW:∀ k,k<wr.heap.size->W.heap[k]?=wr.heap[k]?) (hS:wr.heap.size<=W.heap.size) (Yo:W.os=wr.os) (YG:W.tape=wr.tape) (QX:W.output=wr.output) (hg:W.grownBy w5 mv.ownBlock)
  (aC:w5.ownsRow (b+1) 221 10 v' (ms.length+1) (zap ms++(xU.mk num neg pd ts start place pl).cells tv)):
  zN (b::mv.ownBlock.toList) w (w5.setCell ⟨b,5,none⟩ v')/\ic (w5.setCell ⟨b,5,none⟩ v') b s pos num v'/\iQ (w5.setCell ⟨b,5,none⟩ v') (b+1) v' (ms++[(⟨num,neg,pd,ts,start,place,pl⟩,tv)])/\(w5.setCell ⟨b,5,none⟩ v').ownsRow w.heap.size 191 1 tv ts.length (vI ts)/\RA (w5.setCell ⟨b,5,none⟩ v') w.heap.size/\xg (w5.setCell ⟨b,5,none⟩ v') (w.heap.size+1) num neg pd tv start place pl/\ic w5 b s pos num mv:=by
 have pc:=h.bw;have I7:=hg.size;have k5:zN mv.ownBlock.toList wr w5:=⟨hg.os.trans Yo,hg.tape.trans YG,hg.output.trans QX,by omega,λ k hk hn=>(hg.block k (by omega) (λ e=>hn (by rw[<-e];simp))).trans (hW k hk)⟩;have Bv:b∉mv.ownBlock.toList:=λ hm=>by
  have:=(lg.row.lt b (by simpa using hm)).1;omega
 have Ee:∀ x,w.heap.size<=x->x∉mv.ownBlock.toList:=λ x hx hm=>by
  have:=NA x (by simpa using hm);omega
 have kb:zN [b] w5 (w5.setCell ⟨b,5,none⟩ v'):=(zN.refl _ _).setCell (by simp) _;have r5:=h.eX.kept k5 Bv;have kF:∀ {base:Nat} {v:Value} {n:Nat} {xs:V8},b+1<=base->wr.ownsRow base 191 1 v n xs->(w5.setCell ⟨b,5,none⟩ v').ownsRow base 191 1 v n xs:=by
  intro base v n xs nx hx;have hd:=z0j hx lg.row (by decide);refine⟨hx.1,?_⟩;rcases hx.2 with hn | ⟨g,cap,cur,rfl,hb,dI,rest⟩
  ·exact .inl hn
  ·have hl:=(Array.getElem?_eq_some_iff.1 dI).1;refine .inr ⟨g,cap,cur,rfl,hb,?_,rest⟩;rw[Below.heap_setCell _ _ _ _ (by simp;omega),k5.block g hl (z7b hd),dI]
 refine⟨?_,?_,⟨?_,λ x hx=>?_⟩,kF (by omega) NP,(h.ra.kept k5 (Ee _ L9)).kept kb (by simp;omega),(h.mc.kept k5 (Ee _ (by omega))).kept kb (by simp;omega),r5⟩
 ·have k1:zN (b::mv.ownBlock.toList) w wr:=h.kept.mono (by simp);exact (k1.trans (k5.mono (by simp;intro k hk;exact .inl (.inr hk)))).setCell (by simp) _
 ·obtain⟨q,c0,c1,c2,c3,c4,c5,fz⟩:=r5;exact⟨by simpa using q,by rw[yC (by omega)];exact c0,by rw[yC (by omega)];exact c1,by rw[yC (by omega)];exact c2,by rw[yC (by omega)];exact c3,by rw[yC (by omega)];exact c4,jR c5,λ o=>by simpa using fz o⟩
 ·rw[znp,List.length_append];exact ownsRow_setCell_below aC (by simp) _
 ·rcases List.mem_append.1 hx with hx | hx
  ·exact kF L9 (lg.each x hx)
  ·simp at hx;subst hx;exact zF (kF (by omega) NP) (by omega)
theorem zct (w:W8)(n:Nat)(v0 v1:Value):zN [n] w ((w.setCell ⟨n,0,none⟩ v0).setCell ⟨n,1,none⟩ v1):=((zN.refl _ _).setCell (by simp) _).setCell (by simp) _
variable {n0:Nat}
theorem qH {e:TypeId}{size:Nat}{v:Value}{xs:V8}(h:w.ownsRow base e size v n xs)(k:zN [n0] w w')(hn:∀ g,v.ownBlock=some g->g≠n0):w'.ownsRow base e size v n xs:=by
 refine⟨h.1,?_⟩;rcases h.2 with hx | ⟨g,cap,cur,rfl,hb,dI,rest⟩
 ·exact .inl hx
 ·refine .inr ⟨g,cap,cur,rfl,hb,?_,rest⟩;rw[k.block g (Array.getElem?_eq_some_iff.1 dI).1 (by simp;exact hn g rfl)];exact dI
theorem zr1 (h:iQ w base mv ms)(k:zN [n0] w w')(hm:∀ g,mv.ownBlock=some g->g≠n0)(ht:∀ x∈ms,∀ g,x.2.ownBlock=some g->g≠n0):iQ w' base mv ms:=
 ⟨qH h.row k hm,λ x hx=>qH (h.each x hx) k (ht x hx)⟩
end
end Go.Proofs.YtldkpahaocjdpaaGreat
