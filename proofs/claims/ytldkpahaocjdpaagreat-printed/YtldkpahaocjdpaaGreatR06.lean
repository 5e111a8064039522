/-
  The program's reader (package read), its small steps: take, word, term.
-/
import Derived.Test.YtldkpahaocjdpaaGreatR05
import Derived.Test.YtldkpahaocjdpaaGreatR04
set_option maxHeartbeats 16000000
set_option maxRecDepth 1000000
namespace Go.Proofs.YtldkpahaocjdpaaGreat
section
open Go.RowKit
structure dN (w:W8)(b:Nat)(s:B8)(pos num:Nat)(mv:Value):Prop where
 lt:b<w.heap.size
 c0:w.cell? ⟨b,0,none⟩=some (.string s)
 c1:w.cell? ⟨b,1,none⟩=some (.int .i64 (ae s pos).1)
 c2:w.cell? ⟨b,2,none⟩=some (.int .i64 (ae s pos).2.1)
 c3:w.cell? ⟨b,3,none⟩=some (.int .i64 (ae s pos).2.2)
 c4:w.cell? ⟨b,4,none⟩=some (.int .i64 num)
 c5:w.cell? ⟨b,5,none⟩=some mv
 fz:∀ o,w.frozen? ⟨b,o,none⟩=false
variable {mv:Value} {pos num b:Nat} {s:B8} {w:W8}
theorem dN.kept {B:List Nat}{w':W8}(h:dN w b s pos num mv)(k:Kept B w w')(hn:b∉B):dN w' b s pos num mv:=
 ⟨Nat.lt_of_lt_of_le h.lt k.size,(k.cell h.lt hn).trans h.c0,(k.cell h.lt hn).trans h.c1,(k.cell h.lt hn).trans h.c2,(k.cell h.lt hn).trans h.c3,(k.cell h.lt hn).trans h.c4,(k.cell h.lt hn).trans h.c5,λ o=>(k.frozen h.lt hn).trans (h.fz o)⟩
theorem scan_le (s:B8)(i:Nat)(hi:i<=s.size):(ae s i).2.1<=(ae s i).2.2/\(ae s i).2.2<=s.size:=by
 have h1:=skip_le aH s i hi;have h2:=measK_le (s.extract (skip aH s i) s.size);rw[ext_size] at h2;unfold ae;exact⟨by simp,by simp only;omega⟩
def rtake (s:B8)(pos:Nat)(k:Int):Nat:=if (ae s pos).1==k then (ae s pos).2.2 else pos
def rword (s:B8)(pos:Nat):B8:=s.extract (ae s pos).2.1 (ae s pos).2.2
theorem scan_any' (s:B8)(i:Nat)(hi:i<=s.size)(hs:s.size<=maxLen)(w:W8):
  Calls Tryz.prog 73 #[.string s,.int .i64 i] w λ e w'=>e=.returned (.agg #[.int .i64 (ae s i).1,.int .i64 (ae s i).2.1,.int .i64 (ae s i).2.2])/\Below w.heap.size w w':=scan_any s i hi hs w
variable {w1:W8}
theorem rdr_next {pos':Nat}(h:dN w1 b s pos num mv):
  dN (((w1.setCell ⟨b,1,none⟩ (.int .i64 (ae s pos').1)).setCell ⟨b,2,none⟩ (.int .i64 (ae s pos').2.1)).setCell ⟨b,3,none⟩ (.int .i64 (ae s pos').2.2)) b s pos' num mv:=by
 obtain⟨bP,c0,c1,c2,c3,c4,c5,fz⟩:=h;refine⟨by simpa using bP,?_,?_,?_,?_,?_,?_,?_⟩
 all_goals go_simp
theorem Below.gR (h:Below w.drew.heap.size w.drew w1):Below w.heap.size w w1:=⟨h.os,h.tape,h.output,h.size,h.block⟩
theorem rtake_any (s:B8)(pos num:Nat)(mv:Value)(k:Int)(b:Nat)(w:W8)(h:dN w b s pos num mv)(bn:pos<=s.size)(hs:s.size<=maxLen):
  Calls Tryz.prog 116 #[.pointer (some ⟨b,0,none⟩),.int .i64 k] w λ e w'=>e=.returned (.bool ((ae s pos).1==k))/\Kept [b] w w'/\dN w' b s (rtake s pos k) num mv:=by
 have h':=h;obtain⟨bP,c0,c1,c2,c3,c4,c5,fz⟩:=h
 cases hk:(ae s pos).1==k with
 | false=>
  have cN:((ae s pos).1 != k)=true:=by simp[bne,hk]
  have e1:rtake s pos k=pos:=by unfold rtake;rw[if_neg (by rw[hk];decide)]
  rw[e1];clear hk e1;go_enter Tryz.func116,Tryz.ntmps116;go_wp2_with fail;go_ret;exact⟨rfl,Kept.refl _ _,h'⟩
 | true=>
  have cN:((ae s pos).1 != k)=false:=by simp[bne,hk]
  have e1:rtake s pos k=(ae s pos).2.2:=by unfold rtake;rw[if_pos hk]
  rw[e1];have hle:=(scan_le s pos bn).2;clear hk e1;have HP:=hide (λ (w1:W8) (hb:Below w.heap.size w w1)=>h'.kept ((Kept.refl [] w).aF hb) (by simp));go_enter Tryz.func116,Tryz.ntmps116;go_wp2_with fail
  go_region_with (go_at_call 73;refine (scan_any' s (ae s pos).2.2 hle hs _).mono ?_;rintro e w1 ⟨rfl,aT⟩;obtain⟨JI,x0,x1,x2,x3,x4,x5,fzx⟩:=ad HP w1 (Below.gR aT))
  all_goals
   go_wp2_with fail;go_ret;exact⟨rfl,((((Kept.refl [b] w).aF (Below.gR aT)).setCell (by simp) _).setCell (by simp) _).setCell (by simp) _,rdr_next (pos':=(ae s pos).2.2) (ad HP w1 (Below.gR aT))⟩
theorem clone_any (s:B8)(hs:s.size<=281474976710656)(w:W8):
  Calls Tryz.prog 198 #[.string s] w λ e w'=>e=.returned (.string s)/\Below w.heap.size w w':=by
 go_enter Tryz.func198,Tryz.ntmps198;go_wp2_with fail;refine (Tryz.stringslite_Clone s _ hs).mono ?_;rintro e w1 ⟨rfl,aT⟩;go_wp2_with fail;go_ret;exact⟨rfl,aT⟩
end
section
open Go.RowKit
theorem ga (s:B8)(pos:Nat):(rword s pos).size<=s.size:=by
 unfold rword;simp[ByteArray.size_extract];omega
theorem word_any (s:B8)(pos num:Nat)(mv:Value)(b:Nat)(w:W8)(h:dN w b s pos num mv)(bn:pos<=s.size)(hs:s.size<=2000000):
  Calls Tryz.prog 143 #[.pointer (some ⟨b,0,none⟩)] w λ e w'=>e=.returned (.string (rword s pos))/\Below w.heap.size w w':=by
 have h':=h;obtain⟨bP,c0,c1,c2,c3,c4,c5,fz⟩:=h;obtain⟨l1,l2⟩:=scan_le s pos bn;have l1I:((ae s pos).2.1:Int)<=((ae s pos).2.2:Int):=by omega
 have l2I:((ae s pos).2.2:Int)<=(s.size:Int):=by omega
 have hw:=ga s pos;unfold rword at hw ⊢;have HC:=hide (λ w1=>clone_any (s.extract (ae s pos).2.1 (ae s pos).2.2) (by omega) w1);clear hw;go_enter Tryz.func143,Tryz.ntmps143;go_wp2_with fail
 go_region_with (go_at_call 198;refine (ad HC _).mono ?_;rintro e w1 ⟨rfl,aT⟩)
 all_goals
  go_wp2_with fail;go_ret;exact⟨rfl,Below.gR aT⟩
def tmVal (isVar:Bool)(text:B8):Value:=.iface (if isVar then 130 else 193) (.string text)
theorem term_name (s:B8)(pos num:Nat)(mv:Value)(b:Nat)(w:W8)(h:dN w b s pos num mv)(bn:pos<=s.size)(hs:s.size<=2000000)(hk:(ae s pos).1=2):
  Calls Tryz.prog 199 #[.pointer (some ⟨b,0,none⟩)] w λ e w'=>e=.returned (.tuple #[tmVal false (rword s pos),.bool true])/\Kept [b] w w'/\dN w' b s (ae s pos).2.2 num mv:=by
 have dQ:s.size<=maxLen:=by unfold maxLen;omega
 have cN:((ae s pos).1==2)=true:=by rw[hk];rfl
 have ht:rtake s pos 2=(ae s pos).2.2:=by unfold rtake;rw[if_pos cN]
 have HT:=hide ht;clear hk ht;go_enter Tryz.func199,Tryz.ntmps199;go_wp2_with fail;refine (word_any s pos num mv b _ h bn hs).mono ?_;rintro e w1 ⟨rfl,aT⟩;have h1:=h.kept ((Kept.refl [] w).aF aT) (by simp);go_wp2_with fail;refine (rtake_any s pos num mv 2 b _ h1 bn dQ).mono ?_;rintro e w2 ⟨rfl,o6,h2⟩;rw[ad HT] at h2;go_wp2_with fail
 go_ret2
 exact⟨rfl,((Kept.refl [b] w).aF aT).trans o6,h2⟩
theorem term_var (s:B8)(pos num:Nat)(mv:Value)(b:Nat)(w:W8)(h:dN w b s pos num mv)(bn:pos<=s.size)(hs:s.size<=2000000)(hk:(ae s pos).1=3):
  Calls Tryz.prog 199 #[.pointer (some ⟨b,0,none⟩)] w λ e w'=>e=.returned (.tuple #[tmVal true (rword s pos),.bool true])/\Kept [b] w w'/\dN w' b s (ae s pos).2.2 num mv:=by
 have dQ:s.size<=maxLen:=by unfold maxLen;omega
 have de:((ae s pos).1==2)=false:=by rw[hk];rfl
 have cN:((ae s pos).1==3)=true:=by rw[hk];rfl
 have iN:rtake s pos 2=pos:=by unfold rtake;rw[if_neg (by rw[de];decide)]
 have ht:rtake s pos 3=(ae s pos).2.2:=by unfold rtake;rw[if_pos cN]
 have HT:=hide ht;have Af:=hide iN;clear hk ht iN;go_enter Tryz.func199,Tryz.ntmps199;go_wp2_with fail;refine (word_any s pos num mv b _ h bn hs).mono ?_;rintro e w1 ⟨rfl,aT⟩;have h1:=h.kept ((Kept.refl [] w).aF aT) (by simp);go_wp2_with fail;refine (rtake_any s pos num mv 2 b _ h1 bn dQ).mono ?_;rintro e w2 ⟨rfl,o6,h2⟩;rw[ad Af] at h2;go_wp2_with fail;refine (rtake_any s pos num mv 3 b _ h2 bn dQ).mono ?_;rintro e w3 ⟨rfl,ux,h3⟩;rw[ad HT] at h3;go_wp2_with fail
 go_ret2
 exact⟨rfl,(((Kept.refl [b] w).aF aT).trans o6).trans ux,h3⟩
theorem term_no (s:B8)(pos num:Nat)(mv:Value)(b:Nat)(w:W8)(h:dN w b s pos num mv)(bn:pos<=s.size)(hs:s.size<=2000000)(FI:¬ (ae s pos).1=2)(vK:¬ (ae s pos).1=3):
  Calls Tryz.prog 199 #[.pointer (some ⟨b,0,none⟩)] w λ e w'=>e=.returned (.tuple #[.nilIface,.bool false])/\Kept [b] w w'/\dN w' b s pos num mv:=by
 have dQ:s.size<=maxLen:=by unfold maxLen;omega
 have de:((ae s pos).1==2)=false:=by simp[FI]
 have cN:((ae s pos).1==3)=false:=by simp[vK]
 have iN:rtake s pos 2=pos:=by unfold rtake;rw[if_neg (by rw[de];decide)]
 have ht:rtake s pos 3=pos:=by unfold rtake;rw[if_neg (by rw[cN];decide)]
 have HT:=hide ht;have Af:=hide iN;clear FI vK ht iN;go_enter Tryz.func199,Tryz.ntmps199;go_wp2_with fail;refine (word_any s pos num mv b _ h bn hs).mono ?_;rintro e w1 ⟨rfl,aT⟩;have h1:=h.kept ((Kept.refl [] w).aF aT) (by simp);go_wp2_with fail;refine (rtake_any s pos num mv 2 b _ h1 bn dQ).mono ?_;rintro e w2 ⟨rfl,o6,h2⟩;rw[ad Af] at h2;go_wp2_with fail;refine (rtake_any s pos num mv 3 b _ h2 bn dQ).mono ?_;rintro e w3 ⟨rfl,ux,h3⟩;rw[ad HT] at h3;go_wp2_with fail
 go_ret2
 exact⟨rfl,(((Kept.refl [b] w).aF aT).trans o6).trans ux,h3⟩
end
section
open Go.RowKit
structure cX (w:W8)(m num:Nat)(neg:Bool)(pd:B8)(tv:Value)(start place:Nat)(pl:Nat->Nat):Prop where
 lt:m<w.heap.size
 c0:w.cell? ⟨m,0,none⟩=some (.int .i64 num)
 c1:w.cell? ⟨m,1,none⟩=some (.bool neg)
 c2:w.cell? ⟨m,2,none⟩=some (.string pd)
 c3:w.cell? ⟨m,3,none⟩=some tv
 c4:w.cell? ⟨m,4,none⟩=some (.int .i64 start)
 c5:w.cell? ⟨m,5,none⟩=some (.int .i64 place)
 cp:∀ i,i<4->w.cell? ⟨m,6+i,none⟩=some (.int .i64 (pl i))
 fz:∀ o,w.frozen? ⟨m,o,none⟩=false
variable {pl:Nat->Nat} {start m num:Nat} {tv:Value} {pd:B8} {neg:Bool} {w:W8}
theorem cX.kept {B:List Nat}{w':W8}{place:Nat}(h:cX w m num neg pd tv start place pl)(k:Kept B w w')(hn:m∉B):cX w' m num neg pd tv start place pl:=
 ⟨Nat.lt_of_lt_of_le h.lt k.size,(k.cell h.lt hn).trans h.c0,(k.cell h.lt hn).trans h.c1,(k.cell h.lt hn).trans h.c2,(k.cell h.lt hn).trans h.c3,(k.cell h.lt hn).trans h.c4,(k.cell h.lt hn).trans h.c5,λ i hi=>(k.cell h.lt hn).trans (h.cp i hi),λ o=>(k.frozen h.lt hn).trans (h.fz o)⟩
def dL (pl:Nat->Nat)(i v:Nat):Nat->Nat:=λ a=>if a=i then v else pl a
variable {v:Value} {b o:Nat}
theorem bS {u:Value}(h:w.cell? ⟨b,o,none⟩=some u):(w.setCell ⟨b,o,none⟩ v).cell? ⟨b,o,none⟩=some v:=by go_simp
theorem cs_other' {b' o':Nat}(h:¬ (b=b'/\o=o')):(w.setCell ⟨b,o,none⟩ v).cell? ⟨b',o',none⟩=w.cell? ⟨b',o',none⟩:=by
 by_cases hb:b=b'
 ·subst hb;have ho:o≠o':=λ e=>h ⟨rfl,e⟩
  unfold World.cell? World.setCell;simp only[Array.getElem?_modify,if_true]
  cases w.heap[b]? with
  | none=>rfl
  | some x=>cases x <;> simp[ho]
 ·exact World.cell?_of_block (w:=w) (Below.heap_setCell w ⟨b,o,none⟩ v b' (by simp;omega))
theorem cX.dL {w:W8}{m num:Nat}{neg:Bool}{pd:B8}{tv:Value}{start place:Nat}{pl:Nat->Nat}(h:cX w m num neg pd tv start place pl)(i v:Nat)(hi:i<4):cX (w.setCell ⟨m,6+i,none⟩ (.int .i64 v)) m num neg pd tv start place (Go.Proofs.YtldkpahaocjdpaaGreat.dL pl i v):=by
 refine⟨by simpa using h.lt,?_,?_,?_,?_,?_,?_,λ a ha=>?_,λ o=>by simpa using h.fz o⟩
 ·rw[cs_other' (by omega)];exact h.c0
 ·rw[cs_other' (by omega)];exact h.c1
 ·rw[cs_other' (by omega)];exact h.c2
 ·rw[cs_other' (by omega)];exact h.c3
 ·rw[cs_other' (by omega)];exact h.c4
 ·rw[cs_other' (by omega)];exact h.c5
 ·by_cases e:a=i
  ·subst e;rw[bS (h.cp a ha)];simp[Go.Proofs.YtldkpahaocjdpaaGreat.dL]
  ·rw[cs_other' (by omega),h.cp a ha];simp[Go.Proofs.YtldkpahaocjdpaaGreat.dL,e]
theorem cX.zL {place:Nat}(h:cX w m num neg pd tv start place pl)(v:Value):cX (w.setCell ⟨m,3,none⟩ v) m num neg pd v start place pl:=by
 refine⟨by simpa using h.lt,?_,?_,?_,bS h.c3,?_,?_,λ a ha=>?_,λ o=>by simpa using h.fz o⟩
 ·rw[cs_other' (by omega)];exact h.c0
 ·rw[cs_other' (by omega)];exact h.c1
 ·rw[cs_other' (by omega)];exact h.c2
 ·rw[cs_other' (by omega)];exact h.c4
 ·rw[cs_other' (by omega)];exact h.c5
 ·rw[cs_other' (by omega)];exact h.cp a ha
def ptCells (l:List (Bool × B8)):V8:=l.map λ t=>tmVal t.1 t.2
def ptermsS (s:B8):Nat->Nat->List (Bool × B8)->(Nat->Nat)->Bool × Nat × List (Bool × B8) × (Nat->Nat)
 | 0,pos,l,pl=>(false,pos,l,pl)
 | f+1,pos,l,pl=>
  if (ae s pos).1=2\/(ae s pos).1=3 then
   (if (ae s (ae s pos).2.2).1=7 then ptermsS s f (ae s (ae s pos).2.2).2.2 (l++[(decide ((ae s pos).1=3),rword s pos)]) (dL pl l.length (ae s pos).2.1)
   else (decide ((ae s (ae s pos).2.2).1=6),rtake s (ae s pos).2.2 6,l++[(decide ((ae s pos).1=3),rword s pos)],dL pl l.length (ae s pos).2.1))
  else (false,pos,l,dL pl l.length (ae s pos).2.1)
structure fy (w:W8)(b m:Nat)(s:B8)(num:Nat)(mv:Value)(rn:Nat)(neg:Bool)(pd:B8)(start place:Nat)(l:List (Bool × B8))(pos:Nat)(pl:Nat->Nat)(tv:Value)(wr:W8):Prop where
 dg:dN wr b s pos num mv
 hp:pos<=s.size
 mc:cX wr m rn neg pd tv start place pl
 own:wr.ownsRow w.heap.size 191 1 tv l.length (ptCells l)
 kept:Kept [b,m] w wr
 bm:b≠m
 bw:b<w.heap.size
 mw:m<w.heap.size
variable {wr w1:W8} {pos rn:Nat} {l:List (Bool × B8)} {mv:Value} {s:B8}
theorem fy.call {place pos':Nat}(h:fy w b m s num mv rn neg pd start place l pos pl tv wr)(k:Kept [b] wr w1)(hr:dN w1 b s pos' num mv)(hp:pos'<=s.size):fy w b m s num mv rn neg pd start place l pos' pl tv w1:=
 have h1:=h.bm;have h2:=h.bw
 ⟨hr,hp,h.mc.kept k (by simp;omega),ownsRow_kept h.own k (by simp;omega),h.kept.trans (k.mono (by simp)),h.bm,h.bw,h.mw⟩
theorem fy.place {place:Nat}(h:fy w b m s num mv rn neg pd start place l pos pl tv wr)(i v:Nat)(hi:i<4):fy w b m s num mv rn neg pd start place l pos (dL pl i v) tv (wr.setCell ⟨m,6+i,none⟩ (.int .i64 v)):=
 have h1:=h.bm;have h3:=h.mw
 ⟨h.dg.kept ((Kept.refl [m] _).setCell (by simp) _) (by simp;omega),h.hp,h.mc.dL i v hi,ownsRow_setCell_below h.own (by simpa using h3) _,h.kept.setCell (by simp) _,h.bm,h.bw,h.mw⟩
theorem fy.drew {w:W8}{b m:Nat}{s:B8}{num:Nat}{mv:Value}{rn:Nat}{neg:Bool}{pd:B8}{start place:Nat}{l:List (Bool × B8)}{pos:Nat}{pl:Nat->Nat}{tv:Value}{wr:W8}(h:fy w b m s num mv rn neg pd start place l pos pl tv wr):fy w b m s num mv rn neg pd start place l pos pl tv wr.drew:=
 have k:=(Kept.refl [] wr).drew
 ⟨h.dg.kept k (by simp),h.hp,h.mc.kept k (by simp),ownsRow_kept h.own k (by simp),h.kept.drew,h.bm,h.bw,h.mw⟩
theorem fy.append {place:Nat}{w5:W8}(h:fy w b m s num mv rn neg pd start place l pos pl tv w1){o1:Obj}{v':Value}(t:Bool × B8)
  (aI:w5.ownsRow w.heap.size 191 1 v' (l.length+1) (ptCells l++[tmVal t.1 t.2])) (hg:(w1.alloc o1).grownBy w5 tv.ownBlock):
  fy w b m s num mv rn neg pd start place (l++[t]) pos pl v' (w5.setCell ⟨m,3,none⟩ v')/\cX w5 m rn neg pd tv start place pl:=by
 have h1:=h.bm;have h2:=h.bw;have h3:=h.mw;have aE:∀ k,tv.ownBlock=some k->w.heap.size<=k:=λ k e=>(h.own.lt k e).1
 have k5:Kept tv.ownBlock.toList w1 w5:=((Kept.refl _ w1).alloc o1).grown hg (λ k e=>.inr (by simp[e]));have nF:∀ k,k<w.heap.size->k∉tv.ownBlock.toList:=by
  intro k hk hm
  cases hv:tv.ownBlock with
  | none=>simp[hv] at hm
  | some x=>simp[hv] at hm;have:=aE x hv;omega
 have m5:=h.mc.kept k5 (nF _ h3);refine⟨⟨(h.dg.kept k5 (nF _ h2)).kept ((Kept.refl [m] _).setCell (by simp) _) (by simp;omega),h.hp,m5.zL v',?_,?_,h.bm,h.bw,h.mw⟩,m5⟩
 ·have:=ownsRow_setCell_below aI (a:=⟨m,3,none⟩) (by simpa using h3) v';simpa[ptCells] using this
 ·exact ((h.kept.alloc o1).grown hg (λ k e=>.inl (aE k e))).setCell (by simp) _
end
section
theorem tok_cases (s:B8)(i:Nat):(tok s i).kind=46\/(tok s i).kind=33\/((tok s i).kind=110/\(tok s i).text=s.extract (tok s i).at_ (tok s i).to)\/((tok s i).kind=118/\(tok s i).text=s.extract (tok s i).at_ (tok s i).to)\/(tok s i).kind=119 \/
  ((tok s i).kind=115/\((tok s i).text.toList=[40]\/(tok s i).text.toList=[41]\/(tok s i).text.toList=[44]\/(tok s i).text.toList=[46]\/(tok s i).text.toList=[58,45])):=by
 unfold tok;generalize skip aH s i=k;unfold tokAt
 by_cases h0:s.size<=k
 ·simp[h0]
 ·rw[if_neg h0]
  by_cases h1:k<skip aP s k
  ·rw[if_pos h1]
   split
   ·simp
   ·split <;> simp
  ·rw[if_neg h1]
   by_cases h2:k<skip aL s k
   ·rw[if_pos h2]
    split <;> simp
   ·rw[if_neg h2]
    by_cases h3:signLen s k=0
    ·rw[if_pos h3];simp
    ·rw[if_neg h3]
     by_cases h4:signLen s k=2
     ·rw[if_pos h4];have:({ data:=#[58,45] }:B8).toList=[58,45]:=by rw[ByteArray.toList_eq]
      simp[this]
     ·rw[if_neg h4];have hk:k<s.size:=(by omega);have t1:=ext_one s k hk;simp only[t1];have hs:(s[k].toNat:Int)=40\/(s[k].toNat:Int)=41\/(s[k].toNat:Int)=44\/(s[k].toNat:Int)=46:=by
       unfold signLen at h3 h4;rw[dif_pos hk] at h3 h4
       by_cases hc:(s[k].toNat:Int)=58
       ·rw[if_pos hc] at h3 h4
        by_cases hd:k+1<s.size
        ·rw[dif_pos hd] at h3 h4
         by_cases he:(s[k+1].toNat:Int)=45
         ·rw[if_pos he] at h4;exact absurd rfl h4
         ·rw[if_neg he] at h3;exact absurd rfl h3
        ·rw[dif_neg hd] at h3;exact absurd rfl h3
       ·rw[if_neg hc] at h3
        by_cases hd:(s[k].toNat:Int)=40\/(s[k].toNat:Int)=41\/(s[k].toNat:Int)=44\/(s[k].toNat:Int)=46
        ·exact hd
        ·rw[if_neg hd] at h3;exact absurd rfl h3
      have u:∀ c:UInt8,(s[k].toNat:Int)=(c.toNat:Int)->s[k]=c:=λ c h=>(u8_eq _ _).2 h
      rcases hs with h | h | h | h
      ·simp[u 40 h]
      ·simp[u 41 h]
      ·simp[u 44 h]
      ·simp[u 46 h]
structure KindsOf (s:B8)(p:Nat):Prop where
 k0:(ae s p).1=0↔(tok s p).kind=46
 k2:(ae s p).1=2↔(tok s p).kind=110
 k3:(ae s p).1=3↔(tok s p).kind=118
 k4:(ae s p).1=4↔(tok s p).kind=119
 k5:(ae s p).1=5↔((tok s p).kind=115/\(tok s p).text.toList=[40])
 k6:(ae s p).1=6↔((tok s p).kind=115/\(tok s p).text.toList=[41])
 k7:(ae s p).1=7↔((tok s p).kind=115/\(tok s p).text.toList=[44])
 k8:(ae s p).1=8↔((tok s p).kind=115/\(tok s p).text.toList=[46])
 k9:(ae s p).1=9↔((tok s p).kind=115/\(tok s p).text.toList=[58,45])
 at_:(ae s p).2.1=(tok s p).at_
 lL:(ae s p).2.2=(tok s p).to
 word:(tok s p).kind=110\/(tok s p).kind=118->rword s p=(tok s p).text
theorem kinds (s:B8)(p:Nat)(hp:p<=s.size):KindsOf s p:=by
 have h:=tok_cases s p;have e:=scan_tok s p hp;have e1:(ae s p).1=tokK (tok s p):=by rw[e]
 have e2:(ae s p).2.1=(tok s p).at_:=by rw[e]
 have e3:(ae s p).2.2=(tok s p).to:=by rw[e]
 have hw:(tok s p).kind=110\/(tok s p).kind=118->rword s p=(tok s p).text:=by
  intro hk;unfold rword;rw[e2,e3];rcases h with h | h | h | h | h | h
  ·omega
  ·omega
  ·exact h.2.symm
  ·exact h.2.symm
  ·omega
  ·omega
 refine⟨?_,?_,?_,?_,?_,?_,?_,?_,?_,e2,e3,hw⟩
 all_goals
  rw[e1];unfold tokK;rcases h with h | h | h | h | h | ⟨h,h' | h' | h' | h' | h'⟩
  all_goals first | (simp[h,h'];done) | (simp[h.1];done) | (simp[h];done)
end
section
def bytesL (s:B8):List UInt8:=s.data.toList
theorem bytesL_len (s:B8):(bytesL s).length=s.size:=by unfold bytesL;rw[Array.length_toList];rfl
variable {i:Nat} {s:B8}
theorem bytesL_get (h:i<s.size):(bytesL s)[i]?=some s[i]:=by
 unfold bytesL;rw[Array.getElem?_toList];have:s.data[i]?=some s.data[i]:=Array.getElem?_eq_getElem h;exact this
variable {r:List UInt8}
theorem drop_get {c:UInt8}(h:(bytesL s).drop i=c::r):∃ hi:i<s.size,s[i]=c/\(bytesL s).drop (i+1)=r:=by
 have hi:i<s.size:=by
  rw[<-bytesL_len];apply Nat.lt_of_not_le;intro hl;rw[List.drop_eq_nil_of_le hl] at h;cases h
 have h1:=bytesL_get hi;have h2:((bytesL s).drop i)[0]?=some c:=by rw[h];rfl
 rw[List.getElem?_drop,Nat.add_zero,h1] at h2;refine⟨hi,Option.some.inj h2,?_⟩;have:(bytesL s).drop (i+1)=((bytesL s).drop i).drop 1:=by rw[List.drop_drop]
 rw[this,h];rfl
theorem skip_list (q:Int->Bool){s:B8}:∀ (w:List UInt8) (i:Nat) (r:List UInt8),(bytesL s).drop i=w++r->(∀ c∈w,q c.toNat=true)->(∀ c r',r=c::r'->q c.toNat=false)->skip q s i=i+w.length
 | [],i,r,h,_,hr=>by
  cases r with
  | nil=>
   have:¬ i<s.size:=λ hi=>by
    rw[<-bytesL_len] at hi;have:=List.length_drop (i:=i) (l:=bytesL s);rw[h] at this;simp at this;omega
   rw[skip_end _ _ _ this];rfl
  | cons c r'=>
   obtain⟨hi,hc,_⟩:=drop_get (c:=c) (r:=r') h;rw[skip_stop q s i hi (by rw[hc];exact hr c r' rfl)];rfl
 | c::w,i,r,h,hw,hr=>by
  obtain⟨hi,hc,hd⟩:=drop_get (c:=c) (r:=w++r) h;rw[skip_step q s i hi (by rw[hc];exact hw c List.mem_cons_self),skip_list q w (i+1) r hd (λ x hx=>hw x (List.mem_cons_of_mem _ hx)) hr,List.length_cons];omega
variable {w:List UInt8}
theorem extract_list (h:(bytesL s).drop i=w++r):s.extract i (i+w.length)=⟨w.toArray⟩:=by
 apply ByteArray.ext;apply Array.toList_inj.1
 show (s.extract i (i+w.length)).data.toList=w
 rw[ByteArray.data_extract,Array.toList_extract,List.extract_eq_take_drop]
 show ((bytesL s).drop i).take (i+w.length-i)=w
 rw[h,show i+w.length-i=w.length by omega,List.take_left' rfl]
structure TokIs (s:B8)(p:Nat)(k:Int)(w:List UInt8)(q:Nat):Prop where
 kind:(ae s p).1=k
 word:rword s p=⟨w.toArray⟩
 stop:(ae s p).2.2=q
inductive IsTok:Int->List UInt8->Prop
 | name {w:List UInt8}:w≠[]->w.length<=8->(∀ c∈w,aP c.toNat=true)->w≠[110,111,116]->IsTok 2 w
 | var {w:List UInt8}:w≠[]->w.length<=8->(∀ c∈w,aL c.toNat=true)->IsTok 3 w
 | rA:IsTok 4 [110,111,116]
 | open_:IsTok 5 [40]
 | shut:IsTok 6 [41]
 | comma:IsTok 7 [44]
 | dot:IsTok 8 [46]
 | mR:IsTok 9 [58,45]
def Ends (k:Int)(r:List UInt8):Prop:=∀ c r',r=c::r'->((k=2\/k=4)->aP c.toNat=false)/\(k=3->aL c.toNat=false)
theorem meas_of {a:Nat}(k:Int)(n p:Nat)(hp:skip aH s p=a)(h:bJ (s.extract a s.size)=(k,n)):(ae s p).1=k/\(ae s p).2.1=a/\(ae s p).2.2=a+n:=by
 unfold ae;rw[hp,h];exact⟨rfl,rfl,rfl⟩
theorem ext_list (s:B8)(a:Nat):bytesL (s.extract a s.size)=(bytesL s).drop a:=by
 unfold bytesL;rw[ByteArray.data_extract,Array.toList_extract,List.extract_eq_take_drop,List.take_of_length_le];rw[List.length_drop,Array.length_toList];exact Nat.le_refl _
theorem arr_list (w:List UInt8):(⟨w.toArray⟩:B8).toList=w:=by rw[ByteArray.toList_eq]
variable {k:Int}
theorem meas_tok {r:B8}{rest:List UInt8}(hk:IsTok k w)(h:bytesL r=w++rest)(he:Ends k rest):bJ r=(k,w.length):=by
 have h0:(bytesL r).drop 0=w++rest:=h;have hsz:r.size=w.length+rest.length:=by rw[<-bytesL_len,h,List.length_append]
 have lV:r.extract 0 w.length=⟨w.toArray⟩:=by have:=extract_list h0;rwa [Nat.zero_add] at this
 have first:∀ c w',w=c::w'->∃ hi:0<r.size,r[0]=c:=λ c w' e=>by
  rw[e] at h0;obtain⟨hi,hc,_⟩:=drop_get h0;exact⟨hi,hc⟩
 have aX:(∀ c∈w,aP c.toNat=true)->(k=2\/k=4)->skip aP r 0=w.length:=λ hw hk=>by
  have:=skip_list aP w 0 rest h0 hw (λ c r' e=>(he c r' e).1 hk)
  rwa [Nat.zero_add] at this
 cases hk with
 | name bG hl hw hn=>
  obtain⟨c,w',e⟩:=List.exists_cons_of_ne_nil bG;obtain⟨hi,hc⟩:=first c w' e;have gD:aP (r[0].toNat:Int)=true:=by rw[hc];exact hw c (by rw[e];exact List.mem_cons_self)
  unfold bJ;rw[dif_pos hi,if_pos gD];unfold nameK;rw[aX hw (.inl rfl),if_neg (by omega),lV,arr_list,if_neg hn]
 | var bG hl hw=>
  obtain⟨c,w',e⟩:=List.exists_cons_of_ne_nil bG;obtain⟨hi,hc⟩:=first c w' e;have Jc:=hw c (by rw[e];exact List.mem_cons_self);have mC:aL (r[0].toNat:Int)=true:=by rw[hc];exact Jc
  have nA:¬ aP (r[0].toNat:Int)=true:=by
   unfold aL at mC;unfold aP;simp at mC ⊢;omega
  have nJ:skip aL r 0=w.length:=by
   have:=skip_list aL w 0 rest h0 hw (λ c r' e=>(he c r' e).2 rfl)
   rwa [Nat.zero_add] at this
  unfold bJ;rw[dif_pos hi,if_neg nA,if_pos mC];unfold varK;rw[nJ,if_neg (by omega)]
 | rA=>
  obtain⟨hi,hc⟩:=first 110 [111,116] rfl;have gD:aP (r[0].toNat:Int)=true:=by rw[hc];decide
  unfold bJ;rw[dif_pos hi,if_pos gD];unfold nameK;rw[aX (by decide) (.inr rfl),if_neg (by decide),lV,arr_list,if_pos rfl]
 | open_=>
  obtain⟨hi,hc⟩:=first 40 [] rfl;have h1:(r.extract 0 1).toList=[40]:=by have:r.extract 0 1=_:=lV;rw[this,arr_list]
  unfold bJ;rw[dif_pos hi,if_neg (by rw[hc];decide),if_neg (by rw[hc];decide)];unfold signK;rw[if_pos ⟨by omega,h1⟩];rfl
 | shut=>
  obtain⟨hi,hc⟩:=first 41 [] rfl;have h1:(r.extract 0 1).toList=[41]:=by have:r.extract 0 1=_:=lV;rw[this,arr_list]
  unfold bJ;rw[dif_pos hi,if_neg (by rw[hc];decide),if_neg (by rw[hc];decide)];unfold signK;rw[h1,if_neg (λ x=>by cases x.2),if_pos ⟨by omega,rfl⟩];rfl
 | comma=>
  obtain⟨hi,hc⟩:=first 44 [] rfl;have h1:(r.extract 0 1).toList=[44]:=by have:r.extract 0 1=_:=lV;rw[this,arr_list]
  unfold bJ;rw[dif_pos hi,if_neg (by rw[hc];decide),if_neg (by rw[hc];decide)];unfold signK;rw[h1,if_neg (λ x=>by cases x.2),if_neg (λ x=>by cases x.2),if_pos ⟨by omega,rfl⟩];rfl
 | dot=>
  obtain⟨hi,hc⟩:=first 46 [] rfl;have h1:(r.extract 0 1).toList=[46]:=by have:r.extract 0 1=_:=lV;rw[this,arr_list]
  unfold bJ;rw[dif_pos hi,if_neg (by rw[hc];decide),if_neg (by rw[hc];decide)];unfold signK;rw[h1,if_neg (λ x=>by cases x.2),if_neg (λ x=>by cases x.2),if_neg (λ x=>by cases x.2),if_pos ⟨by omega,rfl⟩];rfl
 | mR=>
  obtain⟨hi,hc⟩:=first 58 [45] rfl;have h2:(r.extract 0 2).toList=[58,45]:=by have:r.extract 0 2=_:=lV;rw[this,arr_list]
  have h1:(r.extract 0 1).toList=[58]:=by
   have:=extract_list (s:=r) (i:=0) (w:=[58]) (r:=45::rest) h0;rw[show r.extract 0 1=_ from this,arr_list]
  have h3:2<=r.size:=by rw[hsz];simp
  unfold bJ;rw[dif_pos hi,if_neg (by rw[hc];decide),if_neg (by rw[hc];decide)];unfold signK;rw[h1,h2,if_neg (λ x=>by cases x.2),if_neg (λ x=>by cases x.2),if_neg (λ x=>by cases x.2),if_neg (λ x=>by cases x.2),if_pos ⟨h3,rfl⟩];rfl
variable {b:List UInt8} {p:Nat}
theorem tok_is (h:(bytesL s).drop p=b++(w++r))(hb:∀ c∈b,aH c.toNat=true)(hk:IsTok k w)(he:Ends k r):TokIs s p k w (p+b.length+w.length)/\(bytesL s).drop (p+b.length+w.length)=r:=by
 have dJ:∀ c r',w++r=c::r'->aH c.toNat=false:=λ c r' e=>by
  have low:∀ x:UInt8,aP x.toNat=true->aH x.toNat=false:=λ x hx=>by
   unfold aP at hx;unfold aH;simp at hx ⊢;omega
  have high:∀ x:UInt8,aL x.toNat=true->aH x.toNat=false:=λ x hx=>by
   unfold aL at hx;unfold aH;simp at hx ⊢;omega
  cases hk with
  | name bG _ hw _=>
   obtain⟨d,w',e'⟩:=List.exists_cons_of_ne_nil bG;rw[e'] at e hw;injection e with e1
   rw[<-e1];exact low _ (hw d List.mem_cons_self)
  | var bG _ hw=>
   obtain⟨d,w',e'⟩:=List.exists_cons_of_ne_nil bG;rw[e'] at e hw;injection e with e1
   rw[<-e1];exact high _ (hw d List.mem_cons_self)
  | rA=>injection e with e1;rw[<-e1];decide
  | open_=>injection e with e1;rw[<-e1];decide
  | shut=>injection e with e1;rw[<-e1];decide
  | comma=>injection e with e1;rw[<-e1];decide
  | dot=>injection e with e1;rw[<-e1];decide
  | mR=>injection e with e1;rw[<-e1];decide
 have nJ:=skip_list aH b p (w++r) h hb dJ;have hd:(bytesL s).drop (p+b.length)=w++r:=by rw[<-List.drop_drop,h,List.drop_left' rfl]
 have hm:=meas_tok (r:=s.extract (p+b.length) s.size) hk (by rw[ext_list];exact hd) he;obtain⟨h1,h2,h3⟩:=meas_of k w.length p nJ hm;refine⟨⟨h1,?_,h3⟩,by rw[<-List.drop_drop,hd,List.drop_left' rfl]⟩;unfold rword;rw[h2,h3];exact extract_list hd
theorem tok_end_is (h:(bytesL s).drop p=b)(hb:∀ c∈b,aH c.toNat=true):(ae s p).1=0:=by
 have nJ:=skip_list aH b p [] (by rw[List.append_nil];exact h) hb (λ c r' e=>by cases e);have hz:¬ 0<(s.extract (p+b.length) s.size).size:=by
  rw[<-bytesL_len,ext_list,<-List.drop_drop,h,List.drop_length];exact Nat.lt_irrefl 0
 have hm:bJ (s.extract (p+b.length) s.size)=(0,0):=by unfold bJ;rw[dif_neg hz]
 exact (meas_of 0 0 p nJ hm).1
end
end Go.Proofs.YtldkpahaocjdpaaGreat
