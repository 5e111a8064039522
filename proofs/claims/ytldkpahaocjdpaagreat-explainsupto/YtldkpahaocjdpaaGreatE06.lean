/-
  The program's reader (package read), its small steps: take, word, term.
-/
import Derived.Test.YtldkpahaocjdpaaGreatE04
import Derived.Test.YtldkpahaocjdpaaGreatE05
import Derived.Deep.LoopGhost
import Derived.Deep.DeepCutAuto
set_option maxHeartbeats 16000000
set_option maxRecDepth 1000000
namespace Go.Proofs.YtldkpahaocjdpaaGreat
section
open Go.RowKit
structure dT (w:W8)(b:Nat)(s:B8)(pos num:Nat)(mv:Value):Prop where
 lt:b<w.heap.size
 c0:w.cell? ⟨b,0,none⟩=some (.string s)
 c1:w.cell? ⟨b,1,none⟩=some (.int .i64 (zF s pos).1)
 c2:w.cell? ⟨b,2,none⟩=some (.int .i64 (zF s pos).2.1)
 c3:w.cell? ⟨b,3,none⟩=some (.int .i64 (zF s pos).2.2)
 c4:w.cell? ⟨b,4,none⟩=some (.int .i64 num)
 c5:w.cell? ⟨b,5,none⟩=some mv
 fz:∀ o,w.frozen? ⟨b,o,none⟩=false
variable {mv:Value} {pos num b:Nat} {s:B8} {w:W8}
theorem dT.kept {B:List Nat}{w':W8}(h:dT w b s pos num mv)(k:zK B w w')(hn:b∉B):dT w' b s pos num mv:=
 ⟨Nat.lt_of_lt_of_le h.lt k.size,(k.cell h.lt hn).trans h.c0,(k.cell h.lt hn).trans h.c1,(k.cell h.lt hn).trans h.c2,(k.cell h.lt hn).trans h.c3,(k.cell h.lt hn).trans h.c4,(k.cell h.lt hn).trans h.c5,λ o=>(k.frozen h.lt hn).trans (h.fz o)⟩
theorem xT (s:B8)(i:Nat)(hi:i<=s.size):(zF s i).2.1<=(zF s i).2.2/\(zF s i).2.2<=s.size:=by
 have h1:=zcz zO s i hi;have h2:=zwj (s.extract (skip zO s i) s.size);rw[zda] at h2;unfold zF;exact⟨by simp,by simp only;omega⟩
def yM (s:B8)(pos:Nat)(k:Int):Nat:=if (zF s pos).1==k then (zF s pos).2.2 else pos
def xQ (s:B8)(pos:Nat):B8:=s.extract (zF s pos).2.1 (zF s pos).2.2
theorem zmt (s:B8)(i:Nat)(hi:i<=s.size)(hs:s.size<=maxLen)(w:W8):
  Calls Tryz.prog 73 #[.string s,.int .i64 i] w λ e w'=>e=.returned (.agg #[.int .i64 (zF s i).1,.int .i64 (zF s i).2.1,.int .i64 (zF s i).2.2])/\Below w.heap.size w w':=z8i s i hi hs w
variable {w1:W8}
theorem z8d {pos':Nat}(h:dT w1 b s pos num mv):
  dT (((w1.setCell ⟨b,1,none⟩ (.int .i64 (zF s pos').1)).setCell ⟨b,2,none⟩ (.int .i64 (zF s pos').2.1)).setCell ⟨b,3,none⟩ (.int .i64 (zF s pos').2.2)) b s pos' num mv:=by
 obtain⟨aH,c0,c1,c2,c3,c4,c5,fz⟩:=h;refine⟨by simpa using aH,?_,?_,?_,?_,?_,?_,?_⟩
 all_goals go_simp
theorem Below.lr (h:Below w.drew.heap.size w.drew w1):Below w.heap.size w w1:=⟨h.os,h.tape,h.output,h.size,h.block⟩
theorem xI (s:B8)(pos num:Nat)(mv:Value)(k:Int)(b:Nat)(w:W8)(h:dT w b s pos num mv)(aJ:pos<=s.size)(hs:s.size<=maxLen):
  Calls Tryz.prog 116 #[.pointer (some ⟨b,0,none⟩),.int .i64 k] w λ e w'=>e=.returned (.bool ((zF s pos).1==k))/\zK [b] w w'/\dT w' b s (yM s pos k) num mv:=by
 have h':=h;obtain⟨aH,c0,c1,c2,c3,c4,c5,fz⟩:=h
 cases hk:(zF s pos).1==k with
 | false=>
  have bn:((zF s pos).1 != k)=true:=by simp[bne,hk]
  have e1:yM s pos k=pos:=by unfold yM;rw[if_neg (by rw[hk];decide)]
  rw[e1];clear hk e1;go_enter Tryz.func116,Tryz.ntmps116;go_wp2_with fail;go_ret;exact⟨rfl,zK.refl _ _,h'⟩
 | true=>
  have bn:((zF s pos).1 != k)=false:=by simp[bne,hk]
  have e1:yM s pos k=(zF s pos).2.2:=by unfold yM;rw[if_pos hk]
  rw[e1];have hle:=(xT s pos aJ).2;clear hk e1;have HP:=zC (λ (w1:W8) (hb:Below w.heap.size w w1)=>h'.kept ((zK.refl [] w).ak hb) (by simp));go_enter Tryz.func116,Tryz.ntmps116;go_wp2_with fail
  go_region_with (go_at_call 73;refine (zmt s (zF s pos).2.2 hle hs _).mono ?_;rintro e w1 ⟨rfl,aL⟩;obtain⟨Qo,x0,x1,x2,x3,x4,x5,Xi⟩:=zA HP w1 (Below.lr aL))
  all_goals
   go_wp2_with fail;go_ret;exact⟨rfl,((((zK.refl [b] w).ak (Below.lr aL)).setCell (by simp) _).setCell (by simp) _).setCell (by simp) _,z8d (pos':=(zF s pos).2.2) (zA HP w1 (Below.lr aL))⟩
theorem z1r (s:B8)(hs:s.size<=281474976710656)(w:W8):
  Calls Tryz.prog 198 #[.string s] w λ e w'=>e=.returned (.string s)/\Below w.heap.size w w':=by
 go_enter Tryz.func198,Tryz.ntmps198;go_wp2_with fail;refine (Tryz.stringslite_Clone s _ hs).mono ?_;rintro e w1 ⟨rfl,aL⟩;go_wp2_with fail;go_ret;exact⟨rfl,aL⟩
end
section
open Go.RowKit
theorem RQ (s:B8)(pos:Nat):(xQ s pos).size<=s.size:=by
 unfold xQ;simp[ByteArray.size_extract];omega
theorem ze0 (s:B8)(pos num:Nat)(mv:Value)(b:Nat)(w:W8)(h:dT w b s pos num mv)(aJ:pos<=s.size)(hs:s.size<=2000000):
  Calls Tryz.prog 143 #[.pointer (some ⟨b,0,none⟩)] w λ e w'=>e=.returned (.string (xQ s pos))/\Below w.heap.size w w':=by
 have h':=h;obtain⟨aH,c0,c1,c2,c3,c4,c5,fz⟩:=h;obtain⟨l1,l2⟩:=xT s pos aJ;have l1I:((zF s pos).2.1:Int)<=((zF s pos).2.2:Int):=by omega
 have l2I:((zF s pos).2.2:Int)<=(s.size:Int):=by omega
 have hw:=RQ s pos;unfold xQ at hw ⊢;have HC:=zC (λ w1=>z1r (s.extract (zF s pos).2.1 (zF s pos).2.2) (by omega) w1);clear hw;go_enter Tryz.func143,Tryz.ntmps143;go_wp2_with fail
 go_region_with (go_at_call 198;refine (zA HC _).mono ?_;rintro e w1 ⟨rfl,aL⟩)
 all_goals
  go_wp2_with fail;go_ret;exact⟨rfl,Below.lr aL⟩
def zec (isVar:Bool)(text:B8):Value:=.iface (if isVar then 130 else 193) (.string text)
theorem z5c (s:B8)(pos num:Nat)(mv:Value)(b:Nat)(w:W8)(h:dT w b s pos num mv)(aJ:pos<=s.size)(hs:s.size<=2000000)(hk:(zF s pos).1=2):
  Calls Tryz.prog 199 #[.pointer (some ⟨b,0,none⟩)] w λ e w'=>e=.returned (.tuple #[zec false (xQ s pos),.bool true])/\zK [b] w w'/\dT w' b s (zF s pos).2.2 num mv:=by
 have bM:s.size<=maxLen:=by unfold maxLen;omega
 have bn:((zF s pos).1==2)=true:=by rw[hk];rfl
 have ht:yM s pos 2=(zF s pos).2.2:=by unfold yM;rw[if_pos bn]
 have HT:=zC ht;clear hk ht;go_enter Tryz.func199,Tryz.ntmps199;go_wp2_with fail;refine (ze0 s pos num mv b _ h aJ hs).mono ?_;rintro e w1 ⟨rfl,aL⟩;have h1:=h.kept ((zK.refl [] w).ak aL) (by simp);go_wp2_with fail;refine (xI s pos num mv 2 b _ h1 aJ bM).mono ?_;rintro e w2 ⟨rfl,qw,h2⟩;rw[zA HT] at h2;go_wp2_with fail
 go_ret2
 exact⟨rfl,((zK.refl [b] w).ak aL).trans qw,h2⟩
theorem z8v (s:B8)(pos num:Nat)(mv:Value)(b:Nat)(w:W8)(h:dT w b s pos num mv)(aJ:pos<=s.size)(hs:s.size<=2000000)(hk:(zF s pos).1=3):
  Calls Tryz.prog 199 #[.pointer (some ⟨b,0,none⟩)] w λ e w'=>e=.returned (.tuple #[zec true (xQ s pos),.bool true])/\zK [b] w w'/\dT w' b s (zF s pos).2.2 num mv:=by
 have bM:s.size<=maxLen:=by unfold maxLen;omega
 have aW:((zF s pos).1==2)=false:=by rw[hk];rfl
 have bn:((zF s pos).1==3)=true:=by rw[hk];rfl
 have pG:yM s pos 2=pos:=by unfold yM;rw[if_neg (by rw[aW];decide)]
 have ht:yM s pos 3=(zF s pos).2.2:=by unfold yM;rw[if_pos bn]
 have HT:=zC ht;have OR:=zC pG;clear hk ht pG;go_enter Tryz.func199,Tryz.ntmps199;go_wp2_with fail;refine (ze0 s pos num mv b _ h aJ hs).mono ?_;rintro e w1 ⟨rfl,aL⟩;have h1:=h.kept ((zK.refl [] w).ak aL) (by simp);go_wp2_with fail;refine (xI s pos num mv 2 b _ h1 aJ bM).mono ?_;rintro e w2 ⟨rfl,qw,h2⟩;rw[zA OR] at h2;go_wp2_with fail;refine (xI s pos num mv 3 b _ h2 aJ bM).mono ?_;rintro e w3 ⟨rfl,F9,h3⟩;rw[zA HT] at h3;go_wp2_with fail
 go_ret2
 exact⟨rfl,(((zK.refl [b] w).ak aL).trans qw).trans F9,h3⟩
theorem yce (s:B8)(pos num:Nat)(mv:Value)(b:Nat)(w:W8)(h:dT w b s pos num mv)(aJ:pos<=s.size)(hs:s.size<=2000000)(T3:¬ (zF s pos).1=2)(KP:¬ (zF s pos).1=3):
  Calls Tryz.prog 199 #[.pointer (some ⟨b,0,none⟩)] w λ e w'=>e=.returned (.tuple #[.nilIface,.bool false])/\zK [b] w w'/\dT w' b s pos num mv:=by
 have bM:s.size<=maxLen:=by unfold maxLen;omega
 have aW:((zF s pos).1==2)=false:=by simp[T3]
 have bn:((zF s pos).1==3)=false:=by simp[KP]
 have pG:yM s pos 2=pos:=by unfold yM;rw[if_neg (by rw[aW];decide)]
 have ht:yM s pos 3=pos:=by unfold yM;rw[if_neg (by rw[bn];decide)]
 have HT:=zC ht;have OR:=zC pG;clear T3 KP ht pG;go_enter Tryz.func199,Tryz.ntmps199;go_wp2_with fail;refine (ze0 s pos num mv b _ h aJ hs).mono ?_;rintro e w1 ⟨rfl,aL⟩;have h1:=h.kept ((zK.refl [] w).ak aL) (by simp);go_wp2_with fail;refine (xI s pos num mv 2 b _ h1 aJ bM).mono ?_;rintro e w2 ⟨rfl,qw,h2⟩;rw[zA OR] at h2;go_wp2_with fail;refine (xI s pos num mv 3 b _ h2 aJ bM).mono ?_;rintro e w3 ⟨rfl,F9,h3⟩;rw[zA HT] at h3;go_wp2_with fail
 go_ret2
 exact⟨rfl,(((zK.refl [b] w).ak aL).trans qw).trans F9,h3⟩
end
section
open Go.RowKit
structure xD where
 text:B8
 isVar:Bool
 at_:Nat
structure zL where
 pred:B8
 ae:List xD
 no:Bool
 at_:Nat
 az:Nat
def xD.cells (t:xD):V8:=[.string t.text,.bool t.isVar,.int .i64 t.at_]
abbrev chr (c:UInt8):B8:={ data:=#[c] }
def zQ (s:B8)(pos:Nat)(bad:Int)(n:Nat):Int:=
 if ((tok s pos).kind != 110&&(tok s pos).kind != 118)||n==4 then zaw s pos bad else bad
def z7 (s:B8)(pos:Nat):xD:=⟨(tok s pos).text,(tok s pos).kind==118,(tok s pos).at_⟩
def qG (s:B8):Nat->Nat->Int->List xD->List xD × Nat × Int
 | 0,pos,bad,l=>(l,pos,bad)
 | f+1,pos,bad,l=>
  let bad1:=zQ s pos bad l.length
  let pos2:=zW s pos bad1
  let bad2:=zU s pos bad1
  let pos3:=vF s pos2 bad2 (chr 44)
  let bad3:=vO s pos2 bad2 (chr 44)
  if dZ s pos2 bad2 (chr 44) then qG s f pos3 bad3 (l++[z7 s pos])
  else (l++[z7 s pos],zW s pos3 (xM s pos3 bad3 (chr 41)),zU s pos3 (xM s pos3 bad3 (chr 41)))
def z6 (s:B8)(pos:Nat)(bad:Int):Int:=if (tok s pos).kind != 110 then zaw s pos bad else bad
def zc9 (s:B8)(pos:Nat)(bad:Int):Nat:=zW s pos (z6 s pos bad)
def zaj (s:B8)(pos:Nat)(bad:Int):Int:=zU s pos (z6 s pos bad)
def zH (s:B8)(pos:Nat)(bad:Int):List xD × Nat × Int:=
 if dZ s (zc9 s pos bad) (zaj s pos bad) (chr 40) then
  qG s 5 (vF s (zc9 s pos bad) (zaj s pos bad) (chr 40)) (vO s (zc9 s pos bad) (zaj s pos bad) (chr 40)) []
 else ([],vF s (zc9 s pos bad) (zaj s pos bad) (chr 40),vO s (zc9 s pos bad) (zaj s pos bad) (chr 40))
variable {wd s:B8} {bad:Int} {pos:Nat}
theorem z2s (h:dZ s pos bad wd=true):bad<0:=by
 unfold dZ at h;simp at h;exact h.1
theorem jL (h:0<=bad):0<=zU s pos bad:=by
 unfold zU;split
 ·exact j7 _ _ _
 ·exact h
theorem vT (h:pos<=s.size):vF s pos bad wd<=s.size:=by
 unfold vF;split
 ·exact zR s pos bad h
 ·exact h
theorem yee:dZ s (zW s pos (zQ s pos bad 4)) (zU s pos (zQ s pos bad 4)) wd=false:=by
 cases h:dZ s (zW s pos (zQ s pos bad 4)) (zU s pos (zQ s pos bad 4)) wd with
 | false=>rfl
 | true=>
  have h1:=z2s h;have h2:0<=zQ s pos bad 4:=by simp[zQ];exact j7 _ _ _
  have h3:=jL (s:=s) (pos:=pos) h2;omega
structure BP (w:W8)(n:Nat)(pred:B8)(v:Value)(no:Bool)(at_ az:Nat):Prop where
 c0:w.cell? ⟨n,0,none⟩=some (.string pred)
 c1:w.cell? ⟨n,1,none⟩=some v
 c2:w.cell? ⟨n,2,none⟩=some (.bool no)
 c3:w.cell? ⟨n,3,none⟩=some (.int .i64 at_)
 c4:w.cell? ⟨n,4,none⟩=some (.int .i64 az)
 fz:∀ o,w.frozen? ⟨n,o,none⟩=false
variable {v:Value} {n:Nat} {w w':W8} {B:List Nat}
theorem BP.kept {pred:B8}{no:Bool}{at_ az:Nat}(h:BP w n pred v no at_ az)(k:zK B w w')(aH:n<w.heap.size)(hn:n∉B):BP w' n pred v no at_ az:=
 ⟨(k.cell aH hn).trans h.c0,(k.cell aH hn).trans h.c1,(k.cell aH hn).trans h.c2,(k.cell aH hn).trans h.c3,(k.cell aH hn).trans h.c4,λ o=>(k.frozen aH hn).trans (h.fz o)⟩
variable {row:Option Nat}
theorem zK.grown {a:W8}(h:zK B a w)(hg:w.grownBy w' row)(hr:∀ k,row=some k->a.heap.size<=k\/k∈B):zK B a w':=
 ⟨hg.os.trans h.os,hg.tape.trans h.tape,hg.output.trans h.output,Nat.le_trans h.size hg.size,λ k hk hn=>(hg.block k (Nat.lt_of_lt_of_le hk h.size) (λ e=>by rcases hr k e.symm with h1 | h1;omega;exact hn h1)).trans (h.block k hk hn)⟩
theorem zK.aR (hg:w.grownBy w' row):zK row.toList w w':=
 (zK.refl _ _).grown hg (λ k e=>.inr (by simp[e]))
variable {xs:V8} {size base:Nat} {e:TypeId}
theorem yI (h:w.ownsRow base e size v n xs)(k:zK B w w')(hB:∀ x∈B,x<base):w'.ownsRow base e size v n xs:=by
 refine⟨h.1,?_⟩;rcases h.2 with hn | ⟨g,cap,cur,rfl,hb,bS,rest⟩
 ·exact .inl hn
 ·refine .inr ⟨g,cap,cur,rfl,hb,?_,rest⟩;rw[k.block g (Array.getElem?_eq_some_iff.1 bS).1 (λ hm=>by have:=hB g hm;omega)];exact bS
def cellsOf (l:List xD):V8:=l.flatMap xD.cells
theorem zjn (l:List xD)(t:xD):cellsOf (l++[t])=cellsOf l++t.cells:=by simp[cellsOf]
structure ud (w:W8)(b:Nat)(s text:B8)(at_:Nat)(l:List xD)(p:Nat)(bd:Int)(v:Value)(wr:W8):Prop where
 bq:dS wr b s p bd
 hp:p<=s.size
 kept:zK [b] w wr
 ac:BP wr (w.heap.size+1) text v false at_ 0
 rc:BP wr w.heap.size { data:=#[] } (.slice none 0 0) false 0 0
 sz:w.heap.size+2<=wr.heap.size
 own:wr.ownsRow (w.heap.size+2) 317 3 v l.length (cellsOf l)
 blt:b<w.heap.size
variable {wr w1:W8} {bd:Int} {p b:Nat} {l:List xD}
theorem ud.call {text:B8}{at_ p':Nat}{D5:Int}(h:ud w b s text at_ l p bd v wr)(k:zK [b] wr w1)(hp:dS w1 b s p' D5)(hl:p'<=s.size):ud w b s text at_ l p' D5 v w1:=
 have aH:=h.blt;have bj:=h.sz
 ⟨hp,hl,h.kept.trans k,h.ac.kept k (by omega) (by simp;omega),h.rc.kept k (by omega) (by simp;omega),Nat.le_trans h.sz k.size,yI h.own k (by simp;omega),h.blt⟩
theorem ud.append {text:B8}{at_:Nat}{w5:W8}(h:ud w b s text at_ l p bd v w1){o1 o2:Obj}{v':Value}(t:xD)
  (ay:w5.ownsRow (w.heap.size+2) 317 3 v' (l.length+1) (cellsOf l++t.cells)) (hg:((w1.alloc o1).alloc o2).grownBy w5 v.ownBlock):
  ud w b s text at_ (l++[t]) p bd v' (w5.setCell ⟨w.heap.size+1,1,none⟩ v')/\BP w5 (w.heap.size+1) text v false at_ 0:=by
 have aH:=h.blt;have bj:=h.sz;have aB:∀ k,v.ownBlock=some k->w.heap.size+2<=k:=λ k e=>(h.own.lt k e).1
 have k5:zK v.ownBlock.toList w1 w5:=(((zK.refl _ w1).alloc o1).alloc o2).grown hg (λ k e=>.inr (by simp[e]));have kR:∀ k,k<w.heap.size+2->k∉v.ownBlock.toList:=by
  intro k hk hm
  cases hv:v.ownBlock with
  | none=>simp[hv] at hm
  | some x=>simp[hv] at hm;have:=aB x hv;omega
 have a5:=h.ac.kept k5 (by omega) (kR _ (by omega));refine⟨⟨?_,h.hp,?_,?_,?_,?_,?_,h.blt⟩,a5⟩
 ·exact (h.bq.kept k5 (kR _ (by omega))).kept ((zK.refl [w.heap.size+1] _).setCell (by simp) _) (by simp;omega)
 ·exact ((((h.kept.alloc o1).alloc o2).grown hg (λ k e=>.inl (by have:=aB k e;omega)))).setCell (.inr (by simp)) _
 ·obtain⟨x0,x1,x2,x3,x4,xf⟩:=a5;exact⟨by go_simp,by go_simp,by go_simp,by go_simp,by go_simp,by go_simp⟩
 ·exact (h.rc.kept k5 (by omega) (kR _ (by omega))).kept ((zK.refl [w.heap.size+1] _).setCell (by simp) _) (by have:=k5.size;omega) (by simp)
 ·have:=k5.size;simp;omega
 ·rw[zjn,List.length_append];exact ownsRow_setCell_below ay (by simp) _
theorem zm0 (s:B8)(p:Nat)(bd:Int)(l:List xD)(h:l.length<=4):qG s (5-l.length) p bd l =
  if dZ s (zW s p (zQ s p bd l.length)) (zU s p (zQ s p bd l.length)) { data:=#[44] } then
   qG s (5-(l++[z7 s p]).length) (vF s (zW s p (zQ s p bd l.length)) (zU s p (zQ s p bd l.length)) { data:=#[44] }) (vO s (zW s p (zQ s p bd l.length)) (zU s p (zQ s p bd l.length)) { data:=#[44] }) (l++[z7 s p])
  else (l++[z7 s p],zW s (vF s (zW s p (zQ s p bd l.length)) (zU s p (zQ s p bd l.length)) { data:=#[44] }) (xM s (vF s (zW s p (zQ s p bd l.length)) (zU s p (zQ s p bd l.length)) { data:=#[44] }) (vO s (zW s p (zQ s p bd l.length)) (zU s p (zQ s p bd l.length)) { data:=#[44] }) { data:=#[41] }),zU s (vF s (zW s p (zQ s p bd l.length)) (zU s p (zQ s p bd l.length)) { data:=#[44] }) (xM s (vF s (zW s p (zQ s p bd l.length)) (zU s p (zQ s p bd l.length)) { data:=#[44] }) (vO s (zW s p (zQ s p bd l.length)) (zU s p (zQ s p bd l.length)) { data:=#[44] }) { data:=#[41] })):=by
 have e1:5-l.length=(4-l.length)+1:=by omega
 have e2:5-(l++[z7 s p]).length=4-l.length:=by simp
 rw[e1,e2,qG]
theorem zD (h:w.ownsRow base e size v n xs):∃ a cap,v=.slice a n cap:=by
 rcases h.2 with⟨rfl,rfl⟩ | ⟨g,cap,cur,rfl,_⟩
 ·exact⟨none,0,rfl⟩
 ·exact⟨_,_,rfl⟩
theorem zri (s:B8)(p:Nat)(bd:Int)(l:List xD):(((tok s p).kind != 110)=true/\((tok s p).kind != 118)=true/\zQ s p bd l.length=zaw s p bd) \/
  (((tok s p).kind != 110)=false/\((l.length:Int)==4)=true/\zQ s p bd l.length=zaw s p bd) \/
  (((tok s p).kind != 110)=true/\((tok s p).kind != 118)=false/\((l.length:Int)==4)=true/\zQ s p bd l.length=zaw s p bd) \/
  (((tok s p).kind != 110)=false/\((l.length:Int)==4)=false/\zQ s p bd l.length=bd) \/
  (((tok s p).kind != 110)=true/\((tok s p).kind != 118)=false/\((l.length:Int)==4)=false/\zQ s p bd l.length=bd):=by
 have e:((l.length:Int)==4)=(l.length==4):=by
  rw[Bool.eq_iff_iff];simp;omega
 rw[e];unfold zQ
 cases (tok s p).kind != 110 <;> cases (tok s p).kind != 118 <;> cases l.length==4 <;> simp
theorem zdq (h4:l.length<=4)(h:dZ s (zW s p (zQ s p bd l.length)) (zU s p (zQ s p bd l.length)) wd=true):l.length+1<=4:=by
 rcases Nat.lt_or_ge l.length 4 with h1 | h1
 ·omega
 ·have e:l.length=4:=by omega
  rw[e,yee] at h
  cases h
theorem z8l {u0 u1 u2 u3 u4:Value}(h0:w1.cell? ⟨n,0,none⟩=some u0)(h1:w1.cell? ⟨n,1,none⟩=some u1)(h2:w1.cell? ⟨n,2,none⟩=some u2)(h3:w1.cell? ⟨n,3,none⟩=some u3)(h4:w1.cell? ⟨n,4,none⟩=some u4)(v0 v1 v2 v3 v4:Value):
  (((((w1.setCell ⟨n,0,none⟩ v0).setCell ⟨n,1,none⟩ v1).setCell ⟨n,2,none⟩ v2).setCell ⟨n,3,none⟩ v3).setCell ⟨n,4,none⟩ v4).cell? ⟨n,0,none⟩=some v0 /\
  (((((w1.setCell ⟨n,0,none⟩ v0).setCell ⟨n,1,none⟩ v1).setCell ⟨n,2,none⟩ v2).setCell ⟨n,3,none⟩ v3).setCell ⟨n,4,none⟩ v4).cell? ⟨n,1,none⟩=some v1 /\
  (((((w1.setCell ⟨n,0,none⟩ v0).setCell ⟨n,1,none⟩ v1).setCell ⟨n,2,none⟩ v2).setCell ⟨n,3,none⟩ v3).setCell ⟨n,4,none⟩ v4).cell? ⟨n,2,none⟩=some v2 /\
  (((((w1.setCell ⟨n,0,none⟩ v0).setCell ⟨n,1,none⟩ v1).setCell ⟨n,2,none⟩ v2).setCell ⟨n,3,none⟩ v3).setCell ⟨n,4,none⟩ v4).cell? ⟨n,3,none⟩=some v3 /\
  (((((w1.setCell ⟨n,0,none⟩ v0).setCell ⟨n,1,none⟩ v1).setCell ⟨n,2,none⟩ v2).setCell ⟨n,3,none⟩ v3).setCell ⟨n,4,none⟩ v4).cell? ⟨n,4,none⟩=some v4:=by
 refine⟨?_,?_,?_,?_,?_⟩ <;> go_simp
theorem zpi (w1:W8)(n:Nat)(v0 v1 v2 v3 v4:Value):zK [n] w1 (((((w1.setCell ⟨n,0,none⟩ v0).setCell ⟨n,1,none⟩ v1).setCell ⟨n,2,none⟩ v2).setCell ⟨n,3,none⟩ v3).setCell ⟨n,4,none⟩ v4):=
 (((((zK.refl [n] w1).setCell (by simp) _).setCell (by simp) _).setCell (by simp) _).setCell (by simp) _).setCell (by simp) _
theorem zG {base':Nat}(h:w.ownsRow base e size v n xs)(hb:base'<=base):w.ownsRow base' e size v n xs:=by
 refine⟨h.1,?_⟩;rcases h.2 with hn | ⟨g,cap,cur,rfl,gj,rest⟩
 ·exact .inl hn
 ·exact .inr ⟨g,cap,cur,rfl,by omega,rest⟩
theorem ud.ends {text:B8}{at_:Nat}(h:ud w b s text at_ l p bd v wr)(k:zK [w.heap.size] wr w'):
  zK [b] w w'/\dS w' b s p bd/\p<=s.size/\w'.ownsRow w.heap.size 317 3 v l.length (cellsOf l):=by
 have aH:=h.blt;refine⟨⟨k.os.trans h.kept.os,k.tape.trans h.kept.tape,k.output.trans h.kept.output,Nat.le_trans h.kept.size k.size,λ i hi hn=>(k.block i (Nat.lt_of_lt_of_le hi h.kept.size) (by simp;omega)).trans (h.kept.block i hi hn)⟩,h.bq.kept k (by simp;omega),h.hp,zG (yI h.own k (by simp)) (by omega)⟩
end
section
open Go.RowKit
structure uf (w:W8)(m num:Nat)(neg:Bool)(pd:B8)(tv:Value)(start place:Nat)(pl:Nat->Nat):Prop where
 lt:m<w.heap.size
 c0:w.cell? ⟨m,0,none⟩=some (.int .i64 num)
 c1:w.cell? ⟨m,1,none⟩=some (.bool neg)
 c2:w.cell? ⟨m,2,none⟩=some (.string pd)
 c3:w.cell? ⟨m,3,none⟩=some tv
 c4:w.cell? ⟨m,4,none⟩=some (.int .i64 start)
 c5:w.cell? ⟨m,5,none⟩=some (.int .i64 place)
 cp:∀ i,i<4->w.cell? ⟨m,6+i,none⟩=some (.int .i64 (pl i))
 fz:∀ o,w.frozen? ⟨m,o,none⟩=false
variable {pl:Nat->Nat} {start m num:Nat} {tv:Value} {pd:B8} {neg:Bool} {w:W8}
theorem uf.kept {B:List Nat}{w':W8}{place:Nat}(h:uf w m num neg pd tv start place pl)(k:zK B w w')(hn:m∉B):uf w' m num neg pd tv start place pl:=
 ⟨Nat.lt_of_lt_of_le h.lt k.size,(k.cell h.lt hn).trans h.c0,(k.cell h.lt hn).trans h.c1,(k.cell h.lt hn).trans h.c2,(k.cell h.lt hn).trans h.c3,(k.cell h.lt hn).trans h.c4,(k.cell h.lt hn).trans h.c5,λ i hi=>(k.cell h.lt hn).trans (h.cp i hi),λ o=>(k.frozen h.lt hn).trans (h.fz o)⟩
def fc (pl:Nat->Nat)(i v:Nat):Nat->Nat:=λ a=>if a=i then v else pl a
variable {v:Value} {b o:Nat}
theorem qT {u:Value}(h:w.cell? ⟨b,o,none⟩=some u):(w.setCell ⟨b,o,none⟩ v).cell? ⟨b,o,none⟩=some v:=by go_simp
theorem yC {b' o':Nat}(h:¬ (b=b'/\o=o')):(w.setCell ⟨b,o,none⟩ v).cell? ⟨b',o',none⟩=w.cell? ⟨b',o',none⟩:=by
 by_cases hb:b=b'
 ·subst hb;have ho:o≠o':=λ e=>h ⟨rfl,e⟩
  unfold World.cell? World.setCell;simp only[Array.getElem?_modify,if_true]
  cases w.heap[b]? with
  | none=>rfl
  | some x=>cases x <;> simp[ho]
 ·exact World.cell?_of_block (w:=w) (Below.heap_setCell w ⟨b,o,none⟩ v b' (by simp;omega))
theorem uf.fc {w:W8}{m num:Nat}{neg:Bool}{pd:B8}{tv:Value}{start place:Nat}{pl:Nat->Nat}(h:uf w m num neg pd tv start place pl)(i v:Nat)(hi:i<4):uf (w.setCell ⟨m,6+i,none⟩ (.int .i64 v)) m num neg pd tv start place (Go.Proofs.YtldkpahaocjdpaaGreat.fc pl i v):=by
 refine⟨by simpa using h.lt,?_,?_,?_,?_,?_,?_,λ a ha=>?_,λ o=>by simpa using h.fz o⟩
 ·rw[yC (by omega)];exact h.c0
 ·rw[yC (by omega)];exact h.c1
 ·rw[yC (by omega)];exact h.c2
 ·rw[yC (by omega)];exact h.c3
 ·rw[yC (by omega)];exact h.c4
 ·rw[yC (by omega)];exact h.c5
 ·by_cases e:a=i
  ·subst e;rw[qT (h.cp a ha)];simp[Go.Proofs.YtldkpahaocjdpaaGreat.fc]
  ·rw[yC (by omega),h.cp a ha];simp[Go.Proofs.YtldkpahaocjdpaaGreat.fc,e]
theorem uf.Ma {place:Nat}(h:uf w m num neg pd tv start place pl)(v:Value):uf (w.setCell ⟨m,3,none⟩ v) m num neg pd v start place pl:=by
 refine⟨by simpa using h.lt,?_,?_,?_,qT h.c3,?_,?_,λ a ha=>?_,λ o=>by simpa using h.fz o⟩
 ·rw[yC (by omega)];exact h.c0
 ·rw[yC (by omega)];exact h.c1
 ·rw[yC (by omega)];exact h.c2
 ·rw[yC (by omega)];exact h.c4
 ·rw[yC (by omega)];exact h.c5
 ·rw[yC (by omega)];exact h.cp a ha
def xH (l:List (Bool × B8)):V8:=l.map λ t=>zec t.1 t.2
def yB (s:B8):Nat->Nat->List (Bool × B8)->(Nat->Nat)->Bool × Nat × List (Bool × B8) × (Nat->Nat)
 | 0,pos,l,pl=>(false,pos,l,pl)
 | f+1,pos,l,pl=>
  if (zF s pos).1=2\/(zF s pos).1=3 then
   (if (zF s (zF s pos).2.2).1=7 then yB s f (zF s (zF s pos).2.2).2.2 (l++[(decide ((zF s pos).1=3),xQ s pos)]) (fc pl l.length (zF s pos).2.1)
   else (decide ((zF s (zF s pos).2.2).1=6),yM s (zF s pos).2.2 6,l++[(decide ((zF s pos).1=3),xQ s pos)],fc pl l.length (zF s pos).2.1))
  else (false,pos,l,fc pl l.length (zF s pos).2.1)
structure sw (w:W8)(b m:Nat)(s:B8)(num:Nat)(mv:Value)(rn:Nat)(neg:Bool)(pd:B8)(start place:Nat)(l:List (Bool × B8))(pos:Nat)(pl:Nat->Nat)(tv:Value)(wr:W8):Prop where
 dx:dT wr b s pos num mv
 hp:pos<=s.size
 mc:uf wr m rn neg pd tv start place pl
 own:wr.ownsRow w.heap.size 191 1 tv l.length (xH l)
 kept:zK [b,m] w wr
 bm:b≠m
 bw:b<w.heap.size
 mw:m<w.heap.size
variable {wr w1:W8} {pos rn:Nat} {l:List (Bool × B8)} {mv:Value} {s:B8}
theorem sw.call {place pos':Nat}(h:sw w b m s num mv rn neg pd start place l pos pl tv wr)(k:zK [b] wr w1)(hr:dT w1 b s pos' num mv)(hp:pos'<=s.size):sw w b m s num mv rn neg pd start place l pos' pl tv w1:=
 have h1:=h.bm;have h2:=h.bw
 ⟨hr,hp,h.mc.kept k (by simp;omega),yI h.own k (by simp;omega),h.kept.trans (k.mono (by simp)),h.bm,h.bw,h.mw⟩
theorem sw.place {place:Nat}(h:sw w b m s num mv rn neg pd start place l pos pl tv wr)(i v:Nat)(hi:i<4):sw w b m s num mv rn neg pd start place l pos (fc pl i v) tv (wr.setCell ⟨m,6+i,none⟩ (.int .i64 v)):=
 have h1:=h.bm;have h3:=h.mw
 ⟨h.dx.kept ((zK.refl [m] _).setCell (by simp) _) (by simp;omega),h.hp,h.mc.fc i v hi,ownsRow_setCell_below h.own (by simpa using h3) _,h.kept.setCell (by simp) _,h.bm,h.bw,h.mw⟩
theorem sw.drew {w:W8}{b m:Nat}{s:B8}{num:Nat}{mv:Value}{rn:Nat}{neg:Bool}{pd:B8}{start place:Nat}{l:List (Bool × B8)}{pos:Nat}{pl:Nat->Nat}{tv:Value}{wr:W8}(h:sw w b m s num mv rn neg pd start place l pos pl tv wr):sw w b m s num mv rn neg pd start place l pos pl tv wr.drew:=
 have k:=(zK.refl [] wr).drew
 ⟨h.dx.kept k (by simp),h.hp,h.mc.kept k (by simp),yI h.own k (by simp),h.kept.drew,h.bm,h.bw,h.mw⟩
theorem sw.append {place:Nat}{w5:W8}(h:sw w b m s num mv rn neg pd start place l pos pl tv w1){o1:Obj}{v':Value}(t:Bool × B8)
  (ay:w5.ownsRow w.heap.size 191 1 v' (l.length+1) (xH l++[zec t.1 t.2])) (hg:(w1.alloc o1).grownBy w5 tv.ownBlock):
  sw w b m s num mv rn neg pd start place (l++[t]) pos pl v' (w5.setCell ⟨m,3,none⟩ v')/\uf w5 m rn neg pd tv start place pl:=by
 have h1:=h.bm;have h2:=h.bw;have h3:=h.mw;have aB:∀ k,tv.ownBlock=some k->w.heap.size<=k:=λ k e=>(h.own.lt k e).1
 have k5:zK tv.ownBlock.toList w1 w5:=((zK.refl _ w1).alloc o1).grown hg (λ k e=>.inr (by simp[e]));have kR:∀ k,k<w.heap.size->k∉tv.ownBlock.toList:=by
  intro k hk hm
  cases hv:tv.ownBlock with
  | none=>simp[hv] at hm
  | some x=>simp[hv] at hm;have:=aB x hv;omega
 have m5:=h.mc.kept k5 (kR _ h3);refine⟨⟨(h.dx.kept k5 (kR _ h2)).kept ((zK.refl [m] _).setCell (by simp) _) (by simp;omega),h.hp,m5.Ma v',?_,?_,h.bm,h.bw,h.mw⟩,m5⟩
 ·have:=ownsRow_setCell_below ay (a:=⟨m,3,none⟩) (by simpa using h3) v';simpa[xH] using this
 ·exact ((h.kept.alloc o1).grown hg (λ k e=>.inl (aB k e))).setCell (by simp) _
end
section
open Go.RowKit
theorem zrm:(Tryz.prog.info? 191).map (λ i=>(i.zero,i.size,i.bytes))=some (some .nilIface,1,16):=by kernel_rfl
theorem zuw (w1:W8)(v:Value):∀ j u,([v]:V8)[j]?=some u->(w1.alloc (.cells #[v] 191)).cell? ((⟨w1.heap.size,0,none⟩:Addr).add j)=some u:=by
 intro j u hj;have e:(⟨w1.heap.size,0,none⟩:Addr).add j=⟨w1.heap.size,j,none⟩:=by unfold Addr.add;split <;> simp_all
 rw[e,World.cell?_alloc_at _ _ _ _ rfl];simpa using hj
theorem z4m (v:Bool)(t:B8):∀ u∈[zec v t],u.oneCell'=true:=by
 intro u hu;simp at hu;subst hu;rfl
theorem zs5 (w:W8)(b m:Nat)(s:B8)(pos num:Nat)(mv:Value)(rn:Nat)(neg:Bool)(pd:B8)(start place:Nat)(pl:Nat->Nat)(hr:dT w b s pos num mv)(hm:uf w m rn neg pd (.slice none 0 0) start place pl)(M6:b≠m)(aJ:pos<=s.size)(hs:s.size<=2000000):
  Calls Tryz.prog 144 #[.pointer (some ⟨b,0,none⟩),.pointer (some ⟨m,0,none⟩)] w λ e w'=>e=.returned (.bool (yB s 4 pos [] pl).1)/\∃ tv,sw w b m s num mv rn neg pd start place (yB s 4 pos [] pl).2.2.1 (yB s 4 pos [] pl).2.1 (yB s 4 pos [] pl).2.2.2 tv w':=by
 obtain⟨i0,hi,bL,aY,bg⟩:=info_parts zrm;have bM:s.size<=maxLen:=by unfold maxLen;omega
 have h0:sw w b m s num mv rn neg pd start place [] pos pl (.slice none 0 0) w:=⟨hr,aJ,hm,World.ownsRow_nil _ _ _ _,zK.refl _ _,M6,hr.lt,hm.lt⟩;clear hr hm;go_enter Tryz.func144,Tryz.ntmps144;go_wp2_with fail
 go_loopg [5,6,7,8] 5 (λ gg i5 t6 ok7 i8 wr=>∃ (l:List (Bool × B8)) (p:Nat) (oe:Nat->Nat) (tv:Value),l.length<=4/\gg=5-l.length/\i8=.int .i64 l.length/\sw w b m s num mv rn neg pd start place l p oe tv wr/\yB s 4 pos [] pl=yB s (4-l.length) p l oe)
 exact⟨[],pos,pl,_,by simp,rfl,rfl,h0,rfl⟩
 case round=>
  clear h0;obtain⟨l,p,oe,tv,El,bS,rfl,hinv,aE⟩:=hrel;have HF:=zC aE;clear aE;obtain⟨a0,cH,rfl⟩:=zD hinv.own
  by_cases hl:l.length<4
  ·have mf:(l.length:Int)<4:=(by omega);have dJ:yB s (4-l.length) p l oe=yB s ((3-l.length)+1) p l oe:=(by congr 1;omega);have fw:=zC ((zA HF).trans (dJ.trans (by rw[yB])));obtain⟨KX,c0,c1,c2,c3,c4,c5,fz⟩:=hinv.dx;have Y5:=hinv.mc.cp l.length hl;have Y6:=hinv.mc.fz (6+l.length);have Ni:=hinv.mw;have bt:=hinv.hp;have HI:=zC hinv;clear HF hinv dJ;go_upto_region 4 with fail
   go_cut [] (λ wc=>sw w b m s num mv rn neg pd start place l p (fc oe l.length (zF s p).2.1) (.slice a0 l.length cH) wc)
   case first=>
    go_region
    all_goals
     go_wp2_with fail;go_meet
     case rel=>exact ((zA HI).place l.length (zF s p).2.1 hl).drew
   case rest=>
    have hinv:=hcut;clear hcut HI c0 c1 c2 c3 c4 c5 fz Y5 Y6
    by_cases bn:(zF s p).1=2
    ·have hk:=bn;clear bn;have aC:=zC ((zA fw).trans (if_pos (Or.inl hk)));have Ij:decide ((zF s p).1=3)=false:=(by rw[hk];rfl);go_wp2_with fail;refine (z5c s p num mv b _ hinv.dx bt hs hk).mono ?_;rintro e w1 ⟨rfl,aW,jm⟩;have bI:=(xT s p bt).2;have aG:=hinv.call aW jm bI;have d3:=aG.mc.c3;have aN:=aG.own;have Qt:=aG.mc.lt;rw[Ij] at aC;have VH:=zC hk;clear fw aW jm hinv hk Ij;unfold zec;simp only[if_false,Bool.false_eq_true];go_wp2_with (at_builtin;refine wpList_append_own _ rfl _ _ 77 rfl w.heap.size 191 i0 _ 1 16 Tryz.underlying77 hi bL aY bg rfl (by decide) _ _ _ rfl (aN.alloc _) ⟨w1.heap.size,0,none⟩ 1 1 [zec false (xQ s p)] rfl rfl (zuw w1 _) (z4m _ _) (by unfold maxLen;omega) (by omega) (by have:=aG.kept.size;simp;omega) ?_);intro v5 w5 aq aU hne5;clear hne5;obtain⟨a5,eH,rfl⟩:=zD aq;obtain⟨aI,sT⟩:=aG.append (false,xQ s p) aq aU;have e3:=sT.c3;have ef:=sT.fz 3;clear aq aU d3 aN aG sT;go_wp2_with fail;refine (xI s _ num mv 7 b _ aI.dx bI bM).mono ?_;rintro e w7 ⟨rfl,dR,nZ⟩;have eZ:=(xT s (zF s p).2.2 bI).2
     cases h7:((zF s (zF s p).2.2).1==7) with
     | true=>
      have yy:(zF s (zF s p).2.2).1=7:=eq_of_beq h7;have AQ:yM s (zF s p).2.2 7=(zF s (zF s p).2.2).2.2:=(by unfold yM;rw[if_pos h7]);rw[AQ] at nZ;have aD:=aI.call dR nZ eZ;have aO:=zC ((zA aC).trans (if_pos yy));clear aI dR nZ aC yy AQ e3 ef;go_wp2_with fail;go_roundg (5-(l.length+1));exact⟨_,_,_,_,by simp;omega,by simp,by simp,aD,(zA aO).trans (by congr 1;first | (simp;done) | (simp;omega))⟩;omega
     | false=>
      have yy:¬ (zF s (zF s p).2.2).1=7:=(by intro e;rw[e] at h7;cases h7);have AQ:yM s (zF s p).2.2 7=(zF s p).2.2:=(by unfold yM;rw[if_neg (by rw[h7];decide)]);rw[AQ] at nZ;have aD:=aI.call dR nZ bI;have aO:=zC ((zA aC).trans (if_neg yy));clear aI dR nZ aC yy AQ e3 ef;go_wp2_with fail;refine (xI s _ num mv 6 b _ aD.dx bI bM).mono ?_;rintro e w8 ⟨rfl,gB,xm⟩;have bU:=aD.call gB xm (by unfold yM;split;exact eZ;exact bI);clear aD gB xm;go_wp2_with fail;go_ret;refine⟨?_,_,by rw[zA aO];exact bU⟩;rw[zA aO]
      show Ending.returned (Value.bool ((zF s (zF s p).2.2).1==6))=Ending.returned (Value.bool (decide ((zF s (zF s p).2.2).1=6)))
      rw[Bool.eq_iff_iff.2 (by simp:(((zF s (zF s p).2.2).1==6)=true↔decide ((zF s (zF s p).2.2).1=6)=true))]
    ·by_cases eE:(zF s p).1=3
     ·have hk:=eE;clear eE bn;have aC:=zC ((zA fw).trans (if_pos (Or.inr hk)));have Ij:decide ((zF s p).1=3)=true:=(by rw[hk];rfl);go_wp2_with fail;refine (z8v s p num mv b _ hinv.dx bt hs hk).mono ?_;rintro e w1 ⟨rfl,aW,jm⟩;have bI:=(xT s p bt).2;have aG:=hinv.call aW jm bI;have d3:=aG.mc.c3;have aN:=aG.own;have Qt:=aG.mc.lt;rw[Ij] at aC;have VH:=zC hk;clear fw aW jm hinv hk Ij;unfold zec;simp only[if_true];go_wp2_with (at_builtin;refine wpList_append_own _ rfl _ _ 77 rfl w.heap.size 191 i0 _ 1 16 Tryz.underlying77 hi bL aY bg rfl (by decide) _ _ _ rfl (aN.alloc _) ⟨w1.heap.size,0,none⟩ 1 1 [zec true (xQ s p)] rfl rfl (zuw w1 _) (z4m _ _) (by unfold maxLen;omega) (by omega) (by have:=aG.kept.size;simp;omega) ?_);intro v5 w5 aq aU hne5;clear hne5;obtain⟨a5,eH,rfl⟩:=zD aq;obtain⟨aI,sT⟩:=aG.append (true,xQ s p) aq aU;have e3:=sT.c3;have ef:=sT.fz 3;clear aq aU d3 aN aG sT;go_wp2_with fail;refine (xI s _ num mv 7 b _ aI.dx bI bM).mono ?_;rintro e w7 ⟨rfl,dR,nZ⟩;have eZ:=(xT s (zF s p).2.2 bI).2
      cases h7:((zF s (zF s p).2.2).1==7) with
      | true=>
       have yy:(zF s (zF s p).2.2).1=7:=eq_of_beq h7;have AQ:yM s (zF s p).2.2 7=(zF s (zF s p).2.2).2.2:=(by unfold yM;rw[if_pos h7]);rw[AQ] at nZ;have aD:=aI.call dR nZ eZ;have aO:=zC ((zA aC).trans (if_pos yy));clear aI dR nZ aC yy AQ e3 ef;go_wp2_with fail;go_roundg (5-(l.length+1));exact⟨_,_,_,_,by simp;omega,by simp,by simp,aD,(zA aO).trans (by congr 1;first | (simp;done) | (simp;omega))⟩;omega
      | false=>
       have yy:¬ (zF s (zF s p).2.2).1=7:=(by intro e;rw[e] at h7;cases h7);have AQ:yM s (zF s p).2.2 7=(zF s p).2.2:=(by unfold yM;rw[if_neg (by rw[h7];decide)]);rw[AQ] at nZ;have aD:=aI.call dR nZ bI;have aO:=zC ((zA aC).trans (if_neg yy));clear aI dR nZ aC yy AQ e3 ef;go_wp2_with fail;refine (xI s _ num mv 6 b _ aD.dx bI bM).mono ?_;rintro e w8 ⟨rfl,gB,xm⟩;have bU:=aD.call gB xm (by unfold yM;split;exact eZ;exact bI);clear aD gB xm;go_wp2_with fail;go_ret;refine⟨?_,_,by rw[zA aO];exact bU⟩;rw[zA aO]
       show Ending.returned (Value.bool ((zF s (zF s p).2.2).1==6))=Ending.returned (Value.bool (decide ((zF s (zF s p).2.2).1=6)))
       rw[Bool.eq_iff_iff.2 (by simp:(((zF s (zF s p).2.2).1==6)=true↔decide ((zF s (zF s p).2.2).1=6)=true))]
     ·have aC:=zC ((zA fw).trans (if_neg (by intro h;rcases h with h | h;exact bn h;exact eE h)));clear fw;go_wp2_with fail;refine (yce s p num mv b _ hinv.dx bt hs bn eE).mono ?_;rintro e w1 ⟨rfl,aW,jm⟩;have aG:=hinv.call aW jm bt;clear aW jm hinv bn eE;go_wp2_with fail;go_ret;exact⟨by rw[zA aC];rfl,_,by rw[zA aC];exact aG⟩
  ·have fw:=zC (show yB s 4 pos [] pl=(false,p,l,oe) by rw[zA HF,show 4-l.length=0 from by omega,yB]);have mf:¬ (l.length:Int)<4:=(by omega);clear HF;go_wp2_with fail;go_ret;exact⟨by rw[zA fw];rfl,_,by rw[zA fw];exact hinv⟩
end
section
open Go.RowKit
theorem zph:(Tryz.prog.info? 317).map (λ i=>(i.zero,i.size,i.bytes))=some (some (.agg #[.string { data:=#[] },.bool false,.int .i64 0]),3,32):=by kernel_rfl
theorem z2a (x y z:Value)(w:W8):Sem.run Tryz.prog (Instr.field 233 (.agg #[x,y,z]) 1) w=.ok y w:=by kernel_rfl
theorem zai (w1:W8)(o:Obj)(t:xD)(j:Nat)(u:Value)(h:t.cells[j]?=some u):((w1.alloc o).alloc (Obj.cells #[.string t.text,.bool t.isVar,.int IntKind.i64 ↑t.at_] 317)).cell? ((⟨w1.heap.size+1,0,none⟩:Addr).add j)=some u:=by
 have e:(⟨w1.heap.size+1,0,none⟩:Addr).add j=⟨w1.heap.size+1,j,none⟩:=by unfold Addr.add;split <;> simp_all
 rw[e,World.cell?_alloc_at _ _ _ _ (by simp)];simpa[xD.cells] using h
theorem zbq (t:xD):∀ u∈t.cells,u.oneCell'=true:=by
 intro u hu;simp[xD.cells] at hu;rcases hu with rfl | rfl | rfl <;> rfl
theorem znx {s:B8}{pos b:Nat}{w w1 w2:W8}{p3:Nat}{b3:Int}(aH:b<w.heap.size)(sW:p3<=s.size)
  (aW:zK [b] ((w.alloc (Obj.cells #[.string { data:=#[] },.slice none 0 0,.bool false,.int IntKind.i64 0,.int IntKind.i64 0] 243)).alloc (Obj.cells #[.string { data:=#[] },.slice none 0 0,.bool false,.int IntKind.i64 ↑(tok s pos).at_,.int IntKind.i64 0] 243)) w1)
  (bn:zK [b] (w1.setCell ⟨w.heap.size+1,0,none⟩ (.string (tok s pos).text)) w2) (eZ:dS w2 b s p3 b3):ud w b s (tok s pos).text (tok s pos).at_ [] p3 b3 (.slice none 0 0) w2:=by
 have aY:=aW.size;have bg:=bn.size;simp at aY bg;have hx:zK [b] w w2:=(((((zK.refl [b] w).alloc _).alloc _).trans aW).setCell (.inr (by simp)) _).trans bn;refine⟨eZ,sW,hx,?_,?_,by omega,World.ownsRow_nil _ _ _ _,aH⟩
 ·have a1:BP w1 (w.heap.size+1) { data:=#[] } (.slice none 0 0) false (tok s pos).at_ 0:=by
   refine BP.kept ⟨?_,?_,?_,?_,?_,?_⟩ aW (by simp) (by simp;omega)
   all_goals first | (rw[World.cell?_alloc_at _ _ _ _ (by simp)];rfl) | (intro o;rw[World.frozen?_alloc_at _ _ _ _ (by simp)])
  have a2:BP (w1.setCell ⟨w.heap.size+1,0,none⟩ (.string (tok s pos).text)) (w.heap.size+1) (tok s pos).text (.slice none 0 0) false (tok s pos).at_ 0:=by
   obtain⟨x0,x1,x2,x3,x4,xf⟩:=a1;exact⟨by go_simp,by go_simp,by go_simp,by go_simp,by go_simp,by go_simp⟩
  exact a2.kept bn (by simp;omega) (by simp;omega)
 ·have a1:BP w1 w.heap.size { data:=#[] } (.slice none 0 0) false 0 0:=by
   refine BP.kept ⟨?_,?_,?_,?_,?_,?_⟩ aW (by simp;omega) (by simp;omega)
   all_goals first | (rw[World.cell?_alloc_past _ _ _ (by simp),World.cell?_alloc_at _ _ _ _ rfl];rfl) | (intro o;rw[World.frozen?_alloc_past _ _ _ (by simp),World.frozen?_alloc_at _ _ _ _ rfl])
  exact (a1.kept ((zK.refl [w.heap.size+1] _).setCell (by simp) _) (by omega) (by simp)).kept bn (by simp;omega) (by simp;omega)
end
end Go.Proofs.YtldkpahaocjdpaaGreat
