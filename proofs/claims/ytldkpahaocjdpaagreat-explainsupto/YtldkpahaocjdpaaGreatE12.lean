/-
  The program's reader: word and term.
-/
import Derived.Test.YtldkpahaocjdpaaGreatE11
set_option maxHeartbeats 16000000
set_option maxRecDepth 1000000
namespace Go.Proofs.YtldkpahaocjdpaaGreat
section
open Go.RowKit
theorem RQ (s:B8)(pos:Nat):(xQ s pos).size<=s.size:=by
 unfold xQ;simp[ByteArray.size_extract];omega
theorem ze0 (s:B8)(pos num:Nat)(mv:Value)(b:Nat)(w:W8)(h:dT w b s pos num mv)(aJ:pos<=s.size)(hs:s.size<=2000000):
  Calls Tryz.prog 143 #[.pointer (some ⟨b,0,none⟩)] w λ e w'=>e=.returned (.string (xQ s pos))/\Below w.heap.size w w':=by
 have h':=h;obtain⟨aH,c0,c1,c2,c3,c4,c5,fz⟩:=h;obtain⟨l1,l2⟩:=xT s pos aJ;have l1I:((zF s pos).2.1:Int)<=((zF s pos).2.2:Int):=by omega
 have l2I:((zF s pos).2.2:Int)<=(s.size:Int):=by omega
 have hw:=RQ s pos;unfold xQ at hw ⊢;have HC:=zC (λ w1=>z1r (s.extract (zF s pos).2.1 (zF s pos).2.2) (by omega) w1);clear hw;go_enter Tryz.func143,Tryz.ntmps143;go_wp2_with fail
 go_region_with (go_at_call 198;refine (zA HC _).mono ?_;rintro e w1 ⟨rfl,aL⟩)
 all_goals
  go_wp2_with fail;go_ret;exact⟨rfl,Below.lr aL⟩
def zec (isVar:Bool)(text:B8):Value:=.iface (if isVar then 130 else 193) (.string text)
theorem z5c (s:B8)(pos num:Nat)(mv:Value)(b:Nat)(w:W8)(h:dT w b s pos num mv)(aJ:pos<=s.size)(hs:s.size<=2000000)(hk:(zF s pos).1=2):
  Calls Tryz.prog 199 #[.pointer (some ⟨b,0,none⟩)] w λ e w'=>e=.returned (.tuple #[zec false (xQ s pos),.bool true])/\zK [b] w w'/\dT w' b s (zF s pos).2.2 num mv:=by
 have bM:s.size<=maxLen:=by unfold maxLen;omega
 have bn:((zF s pos).1==2)=true:=by rw[hk];rfl
 have ht:yM s pos 2=(zF s pos).2.2:=by unfold yM;rw[if_pos bn]
 have HT:=zC ht;clear hk ht;go_enter Tryz.func199,Tryz.ntmps199;go_wp2_with fail;refine (ze0 s pos num mv b _ h aJ hs).mono ?_;rintro e w1 ⟨rfl,aL⟩;have h1:=h.kept ((zK.refl [] w).ak aL) (by simp);go_wp2_with fail;refine (xI s pos num mv 2 b _ h1 aJ bM).mono ?_;rintro e w2 ⟨rfl,qw,h2⟩;rw[zA HT] at h2;go_wp2_with fail
 go_ret2
 exact⟨rfl,((zK.refl [b] w).ak aL).trans qw,h2⟩
theorem z8v (s:B8)(pos num:Nat)(mv:Value)(b:Nat)(w:W8)(h:dT w b s pos num mv)(aJ:pos<=s.size)(hs:s.size<=2000000)(hk:(zF s pos).1=3):
  Calls Tryz.prog 199 #[.pointer (some ⟨b,0,none⟩)] w λ e w'=>e=.returned (.tuple #[zec true (xQ s pos),.bool true])/\zK [b] w w'/\dT w' b s (zF s pos).2.2 num mv:=by
 have bM:s.size<=maxLen:=by unfold maxLen;omega
 have aW:((zF s pos).1==2)=false:=by rw[hk];rfl
 have bn:((zF s pos).1==3)=true:=by rw[hk];rfl
 have pG:yM s pos 2=pos:=by unfold yM;rw[if_neg (by rw[aW];decide)]
 have ht:yM s pos 3=(zF s pos).2.2:=by unfold yM;rw[if_pos bn]
 have HT:=zC ht;have OR:=zC pG;clear hk ht pG;go_enter Tryz.func199,Tryz.ntmps199;go_wp2_with fail;refine (ze0 s pos num mv b _ h aJ hs).mono ?_;rintro e w1 ⟨rfl,aL⟩;have h1:=h.kept ((zK.refl [] w).ak aL) (by simp);go_wp2_with fail;refine (xI s pos num mv 2 b _ h1 aJ bM).mono ?_;rintro e w2 ⟨rfl,qw,h2⟩;rw[zA OR] at h2;go_wp2_with fail;refine (xI s pos num mv 3 b _ h2 aJ bM).mono ?_;rintro e w3 ⟨rfl,F9,h3⟩;rw[zA HT] at h3;go_wp2_with fail
 go_ret2
 exact⟨rfl,(((zK.refl [b] w).ak aL).trans qw).trans F9,h3⟩
theorem yce (s:B8)(pos num:Nat)(mv:Value)(b:Nat)(w:W8)(h:dT w b s pos num mv)(aJ:pos<=s.size)(hs:s.size<=2000000)(T3:¬ (zF s pos).1=2)(KP:¬ (zF s pos).1=3):
  Calls Tryz.prog 199 #[.pointer (some ⟨b,0,none⟩)] w λ e w'=>e=.returned (.tuple #[.nilIface,.bool false])/\zK [b] w w'/\dT w' b s pos num mv:=by
 have bM:s.size<=maxLen:=by unfold maxLen;omega
 have aW:((zF s pos).1==2)=false:=by simp[T3]
 have bn:((zF s pos).1==3)=false:=by simp[KP]
 have pG:yM s pos 2=pos:=by unfold yM;rw[if_neg (by rw[aW];decide)]
 have ht:yM s pos 3=pos:=by unfold yM;rw[if_neg (by rw[bn];decide)]
 have HT:=zC ht;have OR:=zC pG;clear T3 KP ht pG;go_enter Tryz.func199,Tryz.ntmps199;go_wp2_with fail;refine (ze0 s pos num mv b _ h aJ hs).mono ?_;rintro e w1 ⟨rfl,aL⟩;have h1:=h.kept ((zK.refl [] w).ak aL) (by simp);go_wp2_with fail;refine (xI s pos num mv 2 b _ h1 aJ bM).mono ?_;rintro e w2 ⟨rfl,qw,h2⟩;rw[zA OR] at h2;go_wp2_with fail;refine (xI s pos num mv 3 b _ h2 aJ bM).mono ?_;rintro e w3 ⟨rfl,F9,h3⟩;rw[zA HT] at h3;go_wp2_with fail
 go_ret2
 exact⟨rfl,(((zK.refl [b] w).ak aL).trans qw).trans F9,h3⟩
end
section
open Go.RowKit
structure uf (w:W8)(m num:Nat)(neg:Bool)(pd:B8)(tv:Value)(start place:Nat)(pl:Nat->Nat):Prop where
 lt:m<w.heap.size
 c0:w.cell? ⟨m,0,none⟩=some (.int .i64 num)
 c1:w.cell? ⟨m,1,none⟩=some (.bool neg)
 c2:w.cell? ⟨m,2,none⟩=some (.string pd)
 c3:w.cell? ⟨m,3,none⟩=some tv
 c4:w.cell? ⟨m,4,none⟩=some (.int .i64 start)
 c5:w.cell? ⟨m,5,none⟩=some (.int .i64 place)
 cp:∀ i,i<4->w.cell? ⟨m,6+i,none⟩=some (.int .i64 (pl i))
 fz:∀ o,w.frozen? ⟨m,o,none⟩=false
variable {pl:Nat->Nat} {start m num:Nat} {tv:Value} {pd:B8} {neg:Bool} {w:W8}
theorem uf.kept {B:List Nat}{w':W8}{place:Nat}(h:uf w m num neg pd tv start place pl)(k:zK B w w')(hn:m∉B):uf w' m num neg pd tv start place pl:=
 ⟨Nat.lt_of_lt_of_le h.lt k.size,(k.cell h.lt hn).trans h.c0,(k.cell h.lt hn).trans h.c1,(k.cell h.lt hn).trans h.c2,(k.cell h.lt hn).trans h.c3,(k.cell h.lt hn).trans h.c4,(k.cell h.lt hn).trans h.c5,λ i hi=>(k.cell h.lt hn).trans (h.cp i hi),λ o=>(k.frozen h.lt hn).trans (h.fz o)⟩
def fc (pl:Nat->Nat)(i v:Nat):Nat->Nat:=λ a=>if a=i then v else pl a
variable {v:Value} {b o:Nat}
theorem qT {u:Value}(h:w.cell? ⟨b,o,none⟩=some u):(w.setCell ⟨b,o,none⟩ v).cell? ⟨b,o,none⟩=some v:=by go_simp
theorem yC {b' o':Nat}(h:¬ (b=b'/\o=o')):(w.setCell ⟨b,o,none⟩ v).cell? ⟨b',o',none⟩=w.cell? ⟨b',o',none⟩:=by
 by_cases hb:b=b'
 ·subst hb;have ho:o≠o':=λ e=>h ⟨rfl,e⟩
  unfold World.cell? World.setCell;simp only[Array.getElem?_modify,if_true]
  cases w.heap[b]? with
  | none=>rfl
  | some x=>cases x <;> simp[ho]
 ·exact World.cell?_of_block (w:=w) (Below.heap_setCell w ⟨b,o,none⟩ v b' (by simp;omega))
theorem uf.fc {w:W8}{m num:Nat}{neg:Bool}{pd:B8}{tv:Value}{start place:Nat}{pl:Nat->Nat}(h:uf w m num neg pd tv start place pl)(i v:Nat)(hi:i<4):uf (w.setCell ⟨m,6+i,none⟩ (.int .i64 v)) m num neg pd tv start place (Go.Proofs.YtldkpahaocjdpaaGreat.fc pl i v):=by
 refine⟨by simpa using h.lt,?_,?_,?_,?_,?_,?_,λ a ha=>?_,λ o=>by simpa using h.fz o⟩
 ·rw[yC (by omega)];exact h.c0
 ·rw[yC (by omega)];exact h.c1
 ·rw[yC (by omega)];exact h.c2
 ·rw[yC (by omega)];exact h.c3
 ·rw[yC (by omega)];exact h.c4
 ·rw[yC (by omega)];exact h.c5
 ·by_cases e:a=i
  ·subst e;rw[qT (h.cp a ha)];simp[Go.Proofs.YtldkpahaocjdpaaGreat.fc]
  ·rw[yC (by omega),h.cp a ha];simp[Go.Proofs.YtldkpahaocjdpaaGreat.fc,e]
theorem uf.Ma {place:Nat}(h:uf w m num neg pd tv start place pl)(v:Value):uf (w.setCell ⟨m,3,none⟩ v) m num neg pd v start place pl:=by
 refine⟨by simpa using h.lt,?_,?_,?_,qT h.c3,?_,?_,λ a ha=>?_,λ o=>by simpa using h.fz o⟩
 ·rw[yC (by omega)];exact h.c0
 ·rw[yC (by omega)];exact h.c1
 ·rw[yC (by omega)];exact h.c2
 ·rw[yC (by omega)];exact h.c4
 ·rw[yC (by omega)];exact h.c5
 ·rw[yC (by omega)];exact h.cp a ha
def xH (l:List (Bool × B8)):V8:=l.map λ t=>zec t.1 t.2
def yB (s:B8):Nat->Nat->List (Bool × B8)->(Nat->Nat)->Bool × Nat × List (Bool × B8) × (Nat->Nat)
 | 0,pos,l,pl=>(false,pos,l,pl)
 | f+1,pos,l,pl=>
  if (zF s pos).1=2\/(zF s pos).1=3 then
   (if (zF s (zF s pos).2.2).1=7 then yB s f (zF s (zF s pos).2.2).2.2 (l++[(decide ((zF s pos).1=3),xQ s pos)]) (fc pl l.length (zF s pos).2.1)
   else (decide ((zF s (zF s pos).2.2).1=6),yM s (zF s pos).2.2 6,l++[(decide ((zF s pos).1=3),xQ s pos)],fc pl l.length (zF s pos).2.1))
  else (false,pos,l,fc pl l.length (zF s pos).2.1)
structure sw (w:W8)(b m:Nat)(s:B8)(num:Nat)(mv:Value)(rn:Nat)(neg:Bool)(pd:B8)(start place:Nat)(l:List (Bool × B8))(pos:Nat)(pl:Nat->Nat)(tv:Value)(wr:W8):Prop where
 dx:dT wr b s pos num mv
 hp:pos<=s.size
 mc:uf wr m rn neg pd tv start place pl
 own:wr.ownsRow w.heap.size 191 1 tv l.length (xH l)
 kept:zK [b,m] w wr
 bm:b≠m
 bw:b<w.heap.size
 mw:m<w.heap.size
variable {wr w1:W8} {pos rn:Nat} {l:List (Bool × B8)} {mv:Value} {s:B8}
theorem sw.call {place pos':Nat}(h:sw w b m s num mv rn neg pd start place l pos pl tv wr)(k:zK [b] wr w1)(hr:dT w1 b s pos' num mv)(hp:pos'<=s.size):sw w b m s num mv rn neg pd start place l pos' pl tv w1:=
 have h1:=h.bm;have h2:=h.bw
 ⟨hr,hp,h.mc.kept k (by simp;omega),yI h.own k (by simp;omega),h.kept.trans (k.mono (by simp)),h.bm,h.bw,h.mw⟩
theorem sw.place {place:Nat}(h:sw w b m s num mv rn neg pd start place l pos pl tv wr)(i v:Nat)(hi:i<4):sw w b m s num mv rn neg pd start place l pos (fc pl i v) tv (wr.setCell ⟨m,6+i,none⟩ (.int .i64 v)):=
 have h1:=h.bm;have h3:=h.mw
 ⟨h.dx.kept ((zK.refl [m] _).setCell (by simp) _) (by simp;omega),h.hp,h.mc.fc i v hi,ownsRow_setCell_below h.own (by simpa using h3) _,h.kept.setCell (by simp) _,h.bm,h.bw,h.mw⟩
theorem sw.drew {w:W8}{b m:Nat}{s:B8}{num:Nat}{mv:Value}{rn:Nat}{neg:Bool}{pd:B8}{start place:Nat}{l:List (Bool × B8)}{pos:Nat}{pl:Nat->Nat}{tv:Value}{wr:W8}(h:sw w b m s num mv rn neg pd start place l pos pl tv wr):sw w b m s num mv rn neg pd start place l pos pl tv wr.drew:=
 have k:=(zK.refl [] wr).drew
 ⟨h.dx.kept k (by simp),h.hp,h.mc.kept k (by simp),yI h.own k (by simp),h.kept.drew,h.bm,h.bw,h.mw⟩
theorem sw.append {place:Nat}{w5:W8}(h:sw w b m s num mv rn neg pd start place l pos pl tv w1){o1:Obj}{v':Value}(t:Bool × B8)
  (ay:w5.ownsRow w.heap.size 191 1 v' (l.length+1) (xH l++[zec t.1 t.2])) (hg:(w1.alloc o1).grownBy w5 tv.ownBlock):
  sw w b m s num mv rn neg pd start place (l++[t]) pos pl v' (w5.setCell ⟨m,3,none⟩ v')/\uf w5 m rn neg pd tv start place pl:=by
 have h1:=h.bm;have h2:=h.bw;have h3:=h.mw;have aB:∀ k,tv.ownBlock=some k->w.heap.size<=k:=λ k e=>(h.own.lt k e).1
 have k5:zK tv.ownBlock.toList w1 w5:=((zK.refl _ w1).alloc o1).grown hg (λ k e=>.inr (by simp[e]));have kR:∀ k,k<w.heap.size->k∉tv.ownBlock.toList:=by
  intro k hk hm
  cases hv:tv.ownBlock with
  | none=>simp[hv] at hm
  | some x=>simp[hv] at hm;have:=aB x hv;omega
 have m5:=h.mc.kept k5 (kR _ h3);refine⟨⟨(h.dx.kept k5 (kR _ h2)).kept ((zK.refl [m] _).setCell (by simp) _) (by simp;omega),h.hp,m5.Ma v',?_,?_,h.bm,h.bw,h.mw⟩,m5⟩
 ·have:=ownsRow_setCell_below ay (a:=⟨m,3,none⟩) (by simpa using h3) v';simpa[xH] using this
 ·exact ((h.kept.alloc o1).grown hg (λ k e=>.inl (aB k e))).setCell (by simp) _
end
section
open Go.RowKit
theorem zrm:(Tryz.prog.info? 191).map (λ i=>(i.zero,i.size,i.bytes))=some (some .nilIface,1,16):=by kernel_rfl
theorem zuw (w1:W8)(v:Value):∀ j u,([v]:V8)[j]?=some u->(w1.alloc (.cells #[v] 191)).cell? ((⟨w1.heap.size,0,none⟩:Addr).add j)=some u:=by
 intro j u hj;have e:(⟨w1.heap.size,0,none⟩:Addr).add j=⟨w1.heap.size,j,none⟩:=by unfold Addr.add;split <;> simp_all
 rw[e,World.cell?_alloc_at _ _ _ _ rfl];simpa using hj
theorem z4m (v:Bool)(t:B8):∀ u∈[zec v t],u.oneCell'=true:=by
 intro u hu;simp at hu;subst hu;rfl
theorem zs5 (w:W8)(b m:Nat)(s:B8)(pos num:Nat)(mv:Value)(rn:Nat)(neg:Bool)(pd:B8)(start place:Nat)(pl:Nat->Nat)(hr:dT w b s pos num mv)(hm:uf w m rn neg pd (.slice none 0 0) start place pl)(M6:b≠m)(aJ:pos<=s.size)(hs:s.size<=2000000):
  Calls Tryz.prog 144 #[.pointer (some ⟨b,0,none⟩),.pointer (some ⟨m,0,none⟩)] w λ e w'=>e=.returned (.bool (yB s 4 pos [] pl).1)/\∃ tv,sw w b m s num mv rn neg pd start place (yB s 4 pos [] pl).2.2.1 (yB s 4 pos [] pl).2.1 (yB s 4 pos [] pl).2.2.2 tv w':=by
 obtain⟨i0,hi,bL,aY,bg⟩:=info_parts zrm;have bM:s.size<=maxLen:=by unfold maxLen;omega
 have h0:sw w b m s num mv rn neg pd start place [] pos pl (.slice none 0 0) w:=⟨hr,aJ,hm,World.ownsRow_nil _ _ _ _,zK.refl _ _,M6,hr.lt,hm.lt⟩;clear hr hm;go_enter Tryz.func144,Tryz.ntmps144;go_wp2_with fail
 go_loopg [5,6,7,8] 5 (λ gg i5 t6 ok7 i8 wr=>∃ (l:List (Bool × B8)) (p:Nat) (oe:Nat->Nat) (tv:Value),l.length<=4/\gg=5-l.length/\i8=.int .i64 l.length/\sw w b m s num mv rn neg pd start place l p oe tv wr/\yB s 4 pos [] pl=yB s (4-l.length) p l oe)
 exact⟨[],pos,pl,_,by simp,rfl,rfl,h0,rfl⟩
 case round=>
  clear h0;obtain⟨l,p,oe,tv,El,bS,rfl,hinv,aE⟩:=hrel;have HF:=zC aE;clear aE;obtain⟨a0,cH,rfl⟩:=zD hinv.own
  by_cases hl:l.length<4
  ·have mf:(l.length:Int)<4:=(by omega);have dJ:yB s (4-l.length) p l oe=yB s ((3-l.length)+1) p l oe:=(by congr 1;omega);have fw:=zC ((zA HF).trans (dJ.trans (by rw[yB])));obtain⟨KX,c0,c1,c2,c3,c4,c5,fz⟩:=hinv.dx;have Y5:=hinv.mc.cp l.length hl;have Y6:=hinv.mc.fz (6+l.length);have Ni:=hinv.mw;have bt:=hinv.hp;have HI:=zC hinv;clear HF hinv dJ;go_upto_region 4 with fail
   go_cut [] (λ wc=>sw w b m s num mv rn neg pd start place l p (fc oe l.length (zF s p).2.1) (.slice a0 l.length cH) wc)
   case first=>
    go_region
    all_goals
     go_wp2_with fail;go_meet
     case rel=>exact ((zA HI).place l.length (zF s p).2.1 hl).drew
   case rest=>
    have hinv:=hcut;clear hcut HI c0 c1 c2 c3 c4 c5 fz Y5 Y6
    by_cases bn:(zF s p).1=2
    ·have hk:=bn;clear bn;have aC:=zC ((zA fw).trans (if_pos (Or.inl hk)));have Ij:decide ((zF s p).1=3)=false:=(by rw[hk];rfl);go_wp2_with fail;refine (z5c s p num mv b _ hinv.dx bt hs hk).mono ?_;rintro e w1 ⟨rfl,aW,jm⟩;have bI:=(xT s p bt).2;have aG:=hinv.call aW jm bI;have d3:=aG.mc.c3;have aN:=aG.own;have Qt:=aG.mc.lt;rw[Ij] at aC;have VH:=zC hk;clear fw aW jm hinv hk Ij;unfold zec;simp only[if_false,Bool.false_eq_true];go_wp2_with (at_builtin;refine wpList_append_own _ rfl _ _ 77 rfl w.heap.size 191 i0 _ 1 16 Tryz.underlying77 hi bL aY bg rfl (by decide) _ _ _ rfl (aN.alloc _) ⟨w1.heap.size,0,none⟩ 1 1 [zec false (xQ s p)] rfl rfl (zuw w1 _) (z4m _ _) (by unfold maxLen;omega) (by omega) (by have:=aG.kept.size;simp;omega) ?_);intro v5 w5 aq aU hne5;clear hne5;obtain⟨a5,eH,rfl⟩:=zD aq;obtain⟨aI,sT⟩:=aG.append (false,xQ s p) aq aU;have e3:=sT.c3;have ef:=sT.fz 3;clear aq aU d3 aN aG sT;go_wp2_with fail;refine (xI s _ num mv 7 b _ aI.dx bI bM).mono ?_;rintro e w7 ⟨rfl,dR,nZ⟩;have eZ:=(xT s (zF s p).2.2 bI).2
     cases h7:((zF s (zF s p).2.2).1==7) with
     | true=>
      have yy:(zF s (zF s p).2.2).1=7:=eq_of_beq h7;have AQ:yM s (zF s p).2.2 7=(zF s (zF s p).2.2).2.2:=(by unfold yM;rw[if_pos h7]);rw[AQ] at nZ;have aD:=aI.call dR nZ eZ;have aO:=zC ((zA aC).trans (if_pos yy));clear aI dR nZ aC yy AQ e3 ef;go_wp2_with fail;go_roundg (5-(l.length+1));exact⟨_,_,_,_,by simp;omega,by simp,by simp,aD,(zA aO).trans (by congr 1;first | (simp;done) | (simp;omega))⟩;omega
     | false=>
      have yy:¬ (zF s (zF s p).2.2).1=7:=(by intro e;rw[e] at h7;cases h7);have AQ:yM s (zF s p).2.2 7=(zF s p).2.2:=(by unfold yM;rw[if_neg (by rw[h7];decide)]);rw[AQ] at nZ;have aD:=aI.call dR nZ bI;have aO:=zC ((zA aC).trans (if_neg yy));clear aI dR nZ aC yy AQ e3 ef;go_wp2_with fail;refine (xI s _ num mv 6 b _ aD.dx bI bM).mono ?_;rintro e w8 ⟨rfl,gB,xm⟩;have bU:=aD.call gB xm (by unfold yM;split;exact eZ;exact bI);clear aD gB xm;go_wp2_with fail;go_ret;refine⟨?_,_,by rw[zA aO];exact bU⟩;rw[zA aO]
      show Ending.returned (Value.bool ((zF s (zF s p).2.2).1==6))=Ending.returned (Value.bool (decide ((zF s (zF s p).2.2).1=6)))
      rw[Bool.eq_iff_iff.2 (by simp:(((zF s (zF s p).2.2).1==6)=true↔decide ((zF s (zF s p).2.2).1=6)=true))]
    ·by_cases eE:(zF s p).1=3
     ·have hk:=eE;clear eE bn;have aC:=zC ((zA fw).trans (if_pos (Or.inr hk)));have Ij:decide ((zF s p).1=3)=true:=(by rw[hk];rfl);go_wp2_with fail;refine (z8v s p num mv b _ hinv.dx bt hs hk).mono ?_;rintro e w1 ⟨rfl,aW,jm⟩;have bI:=(xT s p bt).2;have aG:=hinv.call aW jm bI;have d3:=aG.mc.c3;have aN:=aG.own;have Qt:=aG.mc.lt;rw[Ij] at aC;have VH:=zC hk;clear fw aW jm hinv hk Ij;unfold zec;simp only[if_true];go_wp2_with (at_builtin;refine wpList_append_own _ rfl _ _ 77 rfl w.heap.size 191 i0 _ 1 16 Tryz.underlying77 hi bL aY bg rfl (by decide) _ _ _ rfl (aN.alloc _) ⟨w1.heap.size,0,none⟩ 1 1 [zec true (xQ s p)] rfl rfl (zuw w1 _) (z4m _ _) (by unfold maxLen;omega) (by omega) (by have:=aG.kept.size;simp;omega) ?_);intro v5 w5 aq aU hne5;clear hne5;obtain⟨a5,eH,rfl⟩:=zD aq;obtain⟨aI,sT⟩:=aG.append (true,xQ s p) aq aU;have e3:=sT.c3;have ef:=sT.fz 3;clear aq aU d3 aN aG sT;go_wp2_with fail;refine (xI s _ num mv 7 b _ aI.dx bI bM).mono ?_;rintro e w7 ⟨rfl,dR,nZ⟩;have eZ:=(xT s (zF s p).2.2 bI).2
      cases h7:((zF s (zF s p).2.2).1==7) with
      | true=>
       have yy:(zF s (zF s p).2.2).1=7:=eq_of_beq h7;have AQ:yM s (zF s p).2.2 7=(zF s (zF s p).2.2).2.2:=(by unfold yM;rw[if_pos h7]);rw[AQ] at nZ;have aD:=aI.call dR nZ eZ;have aO:=zC ((zA aC).trans (if_pos yy));clear aI dR nZ aC yy AQ e3 ef;go_wp2_with fail;go_roundg (5-(l.length+1));exact⟨_,_,_,_,by simp;omega,by simp,by simp,aD,(zA aO).trans (by congr 1;first | (simp;done) | (simp;omega))⟩;omega
      | false=>
       have yy:¬ (zF s (zF s p).2.2).1=7:=(by intro e;rw[e] at h7;cases h7);have AQ:yM s (zF s p).2.2 7=(zF s p).2.2:=(by unfold yM;rw[if_neg (by rw[h7];decide)]);rw[AQ] at nZ;have aD:=aI.call dR nZ bI;have aO:=zC ((zA aC).trans (if_neg yy));clear aI dR nZ aC yy AQ e3 ef;go_wp2_with fail;refine (xI s _ num mv 6 b _ aD.dx bI bM).mono ?_;rintro e w8 ⟨rfl,gB,xm⟩;have bU:=aD.call gB xm (by unfold yM;split;exact eZ;exact bI);clear aD gB xm;go_wp2_with fail;go_ret;refine⟨?_,_,by rw[zA aO];exact bU⟩;rw[zA aO]
       show Ending.returned (Value.bool ((zF s (zF s p).2.2).1==6))=Ending.returned (Value.bool (decide ((zF s (zF s p).2.2).1=6)))
       rw[Bool.eq_iff_iff.2 (by simp:(((zF s (zF s p).2.2).1==6)=true↔decide ((zF s (zF s p).2.2).1=6)=true))]
     ·have aC:=zC ((zA fw).trans (if_neg (by intro h;rcases h with h | h;exact bn h;exact eE h)));clear fw;go_wp2_with fail;refine (yce s p num mv b _ hinv.dx bt hs bn eE).mono ?_;rintro e w1 ⟨rfl,aW,jm⟩;have aG:=hinv.call aW jm bt;clear aW jm hinv bn eE;go_wp2_with fail;go_ret;exact⟨by rw[zA aC];rfl,_,by rw[zA aC];exact aG⟩
  ·have fw:=zC (show yB s 4 pos [] pl=(false,p,l,oe) by rw[zA HF,show 4-l.length=0 from by omega,yB]);have mf:¬ (l.length:Int)<4:=(by omega);clear HF;go_wp2_with fail;go_ret;exact⟨by rw[zA fw];rfl,_,by rw[zA fw];exact hinv⟩
end
section
open Go.RowKit
structure xU where
 num:Nat
 neg:Bool
 pd:B8
 ts:List (Bool × B8)
 start:Nat
 place:Nat
 pl:Nat->Nat
def xU.cells (M:xU)(tv:Value):V8:=[.int .i64 M.num,.bool M.neg,.string M.pd,tv,.int .i64 M.start,.int .i64 M.place,.int .i64 (M.pl 0),.int .i64 (M.pl 1),.int .i64 (M.pl 2),.int .i64 (M.pl 3)]
def za7 (ms:List (xU × Value)):V8:=ms.flatMap λ x=>x.1.cells x.2
structure ey (w:W8)(base:Nat)(mv:Value)(ms:List (xU × Value)):Prop where
 row:w.ownsRow base 221 10 mv ms.length (za7 ms)
 each:∀ x∈ms,w.ownsRow base 191 1 x.2 x.1.ts.length (xH x.1.ts)
variable {ms:List (xU × Value)} {mv:Value} {base:Nat} {w w':W8} {B:List Nat}
theorem ey.kept (h:ey w base mv ms)(k:zK B w w')(hB:∀ x∈B,x<base\/w.heap.size<=x):ey w' base mv ms:=by
 have k':zK (B.filter (·<base)) w w':=⟨k.os,k.tape,k.output,k.size,λ i hi hn=>k.block i hi (λ hm=>by
  rcases hB i hm with h1 | h1
  ·exact hn (by simp[hm,h1])
  ·omega)⟩
 exact⟨yI h.row k' (by simp),λ x hx=>yI (h.each x hx) k' (by simp)⟩
inductive yd2 where
 | no (pos:Nat)
 | yes (pos:Nat) (pd:B8) (ts:List (Bool × B8)) (pl:Nat->Nat)
def vD (s:B8)(pos:Nat):yd2:=
 if (zF s pos).1=2 then
  (if (zF s (zF s pos).2.2).1=5 then
   (if (yB s 4 (zF s (zF s pos).2.2).2.2 [] (λ _=>0)).1 then
    .yes (yB s 4 (zF s (zF s pos).2.2).2.2 [] (λ _=>0)).2.1 (xQ s pos) (yB s 4 (zF s (zF s pos).2.2).2.2 [] (λ _=>0)).2.2.1 (yB s 4 (zF s (zF s pos).2.2).2.2 [] (λ _=>0)).2.2.2
   else .no (yB s 4 (zF s (zF s pos).2.2).2.2 [] (λ _=>0)).2.1)
  else .yes (zF s pos).2.2 (xQ s pos) [] (λ _=>0))
 else .no pos
theorem z7n (w:W8)(num:Nat)(neg:Bool)(start place:Nat)(o:Obj):uf ((w.alloc o).alloc (.cells #[.int .i64 num,.bool neg,.string { data:=#[] },.slice none 0 0,.int .i64 start,.int .i64 place,.int .i64 0,.int .i64 0,.int .i64 0,.int .i64 0] 221)) (w.heap.size+1) num neg { data:=#[] } (.slice none 0 0) start place (λ _=>0):=by
 refine⟨by simp,?_,?_,?_,?_,?_,?_,λ i hi=>?_,λ o=>?_⟩
 all_goals first | (rw[World.cell?_alloc_at _ _ _ _ (by simp)];rfl) | (rw[World.frozen?_alloc_at _ _ _ _ (by simp)]) | skip
 rw[World.cell?_alloc_at _ _ _ _ (by simp)];have:i=0\/i=1\/i=2\/i=3:=by omega
 rcases this with rfl | rfl | rfl | rfl <;> rfl
structure RA (w:W8)(n:Nat):Prop where
 lt:n<w.heap.size
 c0:w.cell? ⟨n,0,none⟩=some (.string { data:=#[] })
 c1:w.cell? ⟨n,1,none⟩=some (.slice none 0 0)
 fz:∀ o,w.frozen? ⟨n,o,none⟩=false
variable {n:Nat}
theorem RA.kept (h:RA w n)(k:zK B w w')(hn:n∉B):RA w' n:=
 ⟨Nat.lt_of_lt_of_le h.lt k.size,(k.cell h.lt hn).trans h.c0,(k.cell h.lt hn).trans h.c1,λ o=>(k.frozen h.lt hn).trans (h.fz o)⟩
structure pM (w:W8)(b:Nat)(s:B8)(num:Nat)(mv:Value)(neg:Bool)(start place:Nat)(pd:B8)(tv:Value)(pl:Nat->Nat)(pos:Nat)(wr:W8):Prop where
 dx:dT wr b s pos num mv
 hp:pos<=s.size
 mc:uf wr (w.heap.size+1) num neg pd tv start place pl
 ra:RA wr w.heap.size
 kept:zK [b] w wr
 bw:b<w.heap.size
variable {wr w1:W8} {pos b:Nat} {tv:Value} {s:B8}
theorem pM.call {num:Nat}{neg:Bool}{start place:Nat}{pd:B8}{pl:Nat->Nat}{pos':Nat}(h:pM w b s num mv neg start place pd tv pl pos wr)(k:zK [b] wr w1)(hr:dT w1 b s pos' num mv)(hp:pos'<=s.size):pM w b s num mv neg start place pd tv pl pos' w1:=
 have h2:=h.bw
 ⟨hr,hp,h.mc.kept k (by simp;omega),h.ra.kept k (by simp;omega),h.kept.trans k,h.bw⟩
theorem pM.same {num:Nat}{neg:Bool}{start place:Nat}{pd:B8}{pl:Nat->Nat}(h:pM w b s num mv neg start place pd tv pl pos wr)(k:Below wr.heap.size wr w1):pM w b s num mv neg start place pd tv pl pos w1:=
 have kk:=(zK.refl [] wr).ak k
 ⟨h.dx.kept kk (by simp),h.hp,h.mc.kept kk (by simp),h.ra.kept kk (by simp),h.kept.ak k,h.bw⟩
theorem pM.pred {num:Nat}{neg:Bool}{start place:Nat}{pd:B8}{pl:Nat->Nat}(h:pM w b s num mv neg start place pd tv pl pos wr)(p:B8):pM w b s num mv neg start place p tv pl pos (wr.setCell ⟨w.heap.size+1,2,none⟩ (.string p)):=by
 have h2:=h.bw;have hm:=h.mc;have k:zK [w.heap.size+1] wr (wr.setCell ⟨w.heap.size+1,2,none⟩ (.string p)):=(zK.refl _ _).setCell (by simp) _;refine⟨h.dx.kept k (by simp;omega),h.hp,⟨by simpa using hm.lt,?_,?_,qT hm.c2,?_,?_,?_,λ i hi=>?_,λ o=>by simpa using hm.fz o⟩,h.ra.kept k (by simp),h.kept.setCell (.inr (by simp)) _,h.bw⟩
 ·rw[yC (by omega)];exact hm.c0
 ·rw[yC (by omega)];exact hm.c1
 ·rw[yC (by omega)];exact hm.c3
 ·rw[yC (by omega)];exact hm.c4
 ·rw[yC (by omega)];exact hm.c5
 ·rw[yC (by omega)];exact hm.cp i hi
theorem pM.start {num:Nat}(neg:Bool)(start:Nat)(h:dT w b s pos num mv)(hp:pos<=s.size):pM w b s num mv neg start (zF s pos).2.1 { data:=#[] } (.slice none 0 0) (λ _=>0) pos ((w.alloc (Obj.cells #[.string { data:=#[] },.slice none 0 0] 79)).alloc (Obj.cells #[.int IntKind.i64 ↑num,.bool neg,.string { data:=#[] },.slice none 0 0,.int IntKind.i64 ↑start,.int IntKind.i64 ↑(zF s pos).snd.fst,.int IntKind.i64 0,.int IntKind.i64 0,.int IntKind.i64 0,.int IntKind.i64 0] 221)).drew:=by
 have k:=(((zK.refl [] w).alloc (Obj.cells #[.string { data:=#[] },.slice none 0 0] 79)).alloc (Obj.cells #[.int IntKind.i64 ↑num,.bool neg,.string { data:=#[] },.slice none 0 0,.int IntKind.i64 ↑start,.int IntKind.i64 ↑(zF s pos).snd.fst,.int IntKind.i64 0,.int IntKind.i64 0,.int IntKind.i64 0,.int IntKind.i64 0] 221)).drew;refine⟨h.kept k (by simp),hp,(z7n w num neg start (zF s pos).2.1 _).kept ((zK.refl [] _).drew) (by simp),?_,k.mono (by simp),h.lt⟩;refine RA.kept ⟨by simp;omega,?_,?_,λ o=>?_⟩ ((zK.refl [] _).drew) (by simp)
 ·rw[World.cell?_alloc_past _ _ _ (by simp),World.cell?_alloc_at _ _ _ _ rfl];rfl
 ·rw[World.cell?_alloc_past _ _ _ (by simp),World.cell?_alloc_at _ _ _ _ rfl];rfl
 ·rw[World.frozen?_alloc_past _ _ _ (by simp),World.frozen?_alloc_at _ _ _ _ rfl]
theorem yd6 (h:RA w1 n)(v0 v1:Value):((w1.setCell ⟨n,0,none⟩ v0).setCell ⟨n,1,none⟩ v1).cell? ⟨n,0,none⟩=some v0/\((w1.setCell ⟨n,0,none⟩ v0).setCell ⟨n,1,none⟩ v1).cell? ⟨n,1,none⟩=some v1:=
 ⟨by rw[yC (by omega)];exact qT h.c0,qT (by rw[yC (by omega)];exact h.c1)⟩
theorem zpq (ms:List (xU × Value))(M:xU)(tv:Value):za7 (ms++[(M,tv)])=za7 ms++M.cells tv:=by simp[za7]
theorem z3p (M:xU)(a:O8)(n c:Nat):∀ u∈M.cells (.slice a n c),u.oneCell'=true:=by
 intro u hu;simp[xU.cells] at hu;rcases hu with rfl | rfl | rfl | rfl | rfl | rfl | rfl | rfl | rfl | rfl <;> rfl
theorem ya6 {g cap:Nat}(hd:(Value.slice (some ⟨g,0,none⟩) n cap).ownBlock=none\/(Value.slice (some ⟨g,0,none⟩) n cap).ownBlock≠mv.ownBlock):g∉mv.ownBlock.toList:=λ hm=>by
 have nw:mv.ownBlock=some g:=by simpa using hm
 rcases hd with hd | hd
 ·cases hd
 ·exact hd (by rw[nw];rfl)
theorem z3o {W w5:W8}{num:Nat}{neg:Bool}{start place:Nat}{pd:B8}{pl:Nat->Nat}{ts:List (Bool × B8)}{v':Value}
  (h:pM w b s num mv neg start place pd tv pl pos wr) (gU:ey wr (b+1) mv ms) (Ni:∀ k,mv.ownBlock=some k->k<w.heap.size) (pH:wr.ownsRow w.heap.size 191 1 tv ts.length (xH ts))
  (hW:∀ k,k<wr.heap.size->W.heap[k]?=wr.heap[k]?) (hS:wr.heap.size<=W.heap.size) (YA:W.os=wr.os) (YL:W.tape=wr.tape) (QH:W.output=wr.output) (hg:W.grownBy w5 mv.ownBlock)
  (ay:w5.ownsRow (b+1) 221 10 v' (ms.length+1) (za7 ms++(xU.mk num neg pd ts start place pl).cells tv)):
  zK (b::mv.ownBlock.toList) w (w5.setCell ⟨b,5,none⟩ v')/\dT (w5.setCell ⟨b,5,none⟩ v') b s pos num v'/\ey (w5.setCell ⟨b,5,none⟩ v') (b+1) v' (ms++[(⟨num,neg,pd,ts,start,place,pl⟩,tv)])/\(w5.setCell ⟨b,5,none⟩ v').ownsRow w.heap.size 191 1 tv ts.length (xH ts)/\RA (w5.setCell ⟨b,5,none⟩ v') w.heap.size/\uf (w5.setCell ⟨b,5,none⟩ v') (w.heap.size+1) num neg pd tv start place pl/\dT w5 b s pos num mv:=by
 have eo:=h.bw;have Gu:=hg.size;have k5:zK mv.ownBlock.toList wr w5:=⟨hg.os.trans YA,hg.tape.trans YL,hg.output.trans QH,by omega,λ k hk hn=>(hg.block k (by omega) (λ e=>hn (by rw[<-e];simp))).trans (hW k hk)⟩;have zo:b∉mv.ownBlock.toList:=λ hm=>by
  have:=(gU.row.lt b (by simpa using hm)).1;omega
 have Dg:∀ x,w.heap.size<=x->x∉mv.ownBlock.toList:=λ x hx hm=>by
  have:=Ni x (by simpa using hm);omega
 have kb:zK [b] w5 (w5.setCell ⟨b,5,none⟩ v'):=(zK.refl _ _).setCell (by simp) _;have r5:=h.dx.kept k5 zo;have eI:∀ {base:Nat} {v:Value} {n:Nat} {xs:V8},b+1<=base->wr.ownsRow base 191 1 v n xs->(w5.setCell ⟨b,5,none⟩ v').ownsRow base 191 1 v n xs:=by
  intro base v n xs mu hx;have hd:=z30 hx gU.row (by decide);refine⟨hx.1,?_⟩;rcases hx.2 with hn | ⟨g,cap,cur,rfl,hb,bS,rest⟩
  ·exact .inl hn
  ·have hl:=(Array.getElem?_eq_some_iff.1 bS).1;refine .inr ⟨g,cap,cur,rfl,hb,?_,rest⟩;rw[Below.heap_setCell _ _ _ _ (by simp;omega),k5.block g hl (ya6 hd),bS]
 refine⟨?_,?_,⟨?_,λ x hx=>?_⟩,eI (by omega) pH,(h.ra.kept k5 (Dg _ L9)).kept kb (by simp;omega),(h.mc.kept k5 (Dg _ (by omega))).kept kb (by simp;omega),r5⟩
 ·have k1:zK (b::mv.ownBlock.toList) w wr:=h.kept.mono (by simp);exact (k1.trans (k5.mono (by simp;intro k hk;exact .inl (.inr hk)))).setCell (by simp) _
 ·obtain⟨q,c0,c1,c2,c3,c4,c5,fz⟩:=r5;exact⟨by simpa using q,by rw[yC (by omega)];exact c0,by rw[yC (by omega)];exact c1,by rw[yC (by omega)];exact c2,by rw[yC (by omega)];exact c3,by rw[yC (by omega)];exact c4,qT c5,λ o=>by simpa using fz o⟩
 ·rw[zpq,List.length_append];exact ownsRow_setCell_below ay (by simp) _
 ·rcases List.mem_append.1 hx with hx | hx
  ·exact eI L9 (gU.each x hx)
  ·simp at hx;subst hx;exact zG (eI (by omega) pH) (by omega)
theorem zby (w:W8)(n:Nat)(v0 v1:Value):zK [n] w ((w.setCell ⟨n,0,none⟩ v0).setCell ⟨n,1,none⟩ v1):=((zK.refl _ _).setCell (by simp) _).setCell (by simp) _
variable {n0:Nat}
theorem j8 {e:TypeId}{size:Nat}{v:Value}{xs:V8}(h:w.ownsRow base e size v n xs)(k:zK [n0] w w')(hn:∀ g,v.ownBlock=some g->g≠n0):w'.ownsRow base e size v n xs:=by
 refine⟨h.1,?_⟩;rcases h.2 with hx | ⟨g,cap,cur,rfl,hb,bS,rest⟩
 ·exact .inl hx
 ·refine .inr ⟨g,cap,cur,rfl,hb,?_,rest⟩;rw[k.block g (Array.getElem?_eq_some_iff.1 bS).1 (by simp;exact hn g rfl)];exact bS
theorem zuk (h:ey w base mv ms)(k:zK [n0] w w')(hm:∀ g,mv.ownBlock=some g->g≠n0)(ht:∀ x∈ms,∀ g,x.2.ownBlock=some g->g≠n0):ey w' base mv ms:=
 ⟨j8 h.row k hm,λ x hx=>j8 (h.each x hx) k (ht x hx)⟩
end
end Go.Proofs.YtldkpahaocjdpaaGreat
