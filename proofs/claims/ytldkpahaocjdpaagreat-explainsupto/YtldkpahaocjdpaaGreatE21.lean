/-
  The program's has, atoms, Positive, Binds: whether a variable stands in a positive literal.
-/
import Derived.Test.YtldkpahaocjdpaaGreatE20
import Derived.Laws.EntriesVeiled
set_option maxHeartbeats 16000000
set_option maxRecDepth 1000000
namespace Go.Proofs.YtldkpahaocjdpaaGreat
section
open Go.RowKit
theorem zei (W:W8)(v:Value):(Instr.typeAssert (.iface 130 v) 191 130 true).run Tryz.prog W=.ok (.tuple #[v,.bool true]) W:=by kernel_rfl
theorem zjj (W:W8)(v:Value):(Instr.typeAssert (.iface 193 v) 191 130 true).run Tryz.prog W=.ok (.tuple #[.string { data:=#[] },.bool false]) W:=by kernel_rfl
theorem zdl (W:W8)(v:Value):(Instr.typeAssert (.iface 193 v) 191 193 true).run Tryz.prog W=.ok (.tuple #[v,.bool true]) W:=by kernel_rfl
def znc (v:B8)(ts:List (Bool × B8)):Bool:=ts.any λ t=>t.1&&t.2.toList==v.toList
theorem zmd {w:W8}{base:Nat}{tv:Value}{ts:List (Bool × B8)}(h:w.ownsRow base 191 1 tv ts.length (xH ts))(k:Nat)(hk:k<ts.length):∃ g cap,tv=.slice (some ⟨g,0,none⟩) ts.length cap/\base<=g/\g<w.heap.size/\ts.length<=cap/\cap<=maxLen/\w.cell? ⟨g,k,none⟩=some (zec ts[k].1 ts[k].2):=by
 rcases h.2 with⟨_,h0⟩ | ⟨g,cap,cur,rfl,hb,hg,bO,bQ,ij,ht⟩
 ·omega
 ·refine⟨g,cap,rfl,hb,(Array.getElem?_eq_some_iff.1 hg).1,bO,bQ,?_⟩;rw[h.cellAt k (by omega),xH,List.getElem?_map,List.getElem?_eq_getElem hk];rfl
theorem z2l (w:W8)(base:Nat)(pd v:B8)(a:O8)(c:Nat)(ts:List (Bool × B8))(h:w.ownsRow base 191 1 (.slice a ts.length c) ts.length (xH ts)):
  Calls Tryz.prog 221 #[.agg #[.string pd,.slice a ts.length c],.string v] w λ e w'=>e=.returned (.bool (znc v ts))/\Below w.heap.size w w':=by
 have lN:=yU h;unfold maxLen at lN;have PD:Below w.heap.size w (w.alloc (.cells #[.string pd,.slice a ts.length c] 79)):=B9.alloc L9 _;have h0:=zJ h PD (λ g e=>(h.lt g e).2);clear h;have TC:=zei;have Kh:=zjj;have Dg:=zdl;go_enter Tryz.func221,Tryz.ntmps221;go_wp2_with fail
 go_loop [12] (λ i=>∃ k:Nat,k<=ts.length/\i=.int .i64 k/\znc v ts=znc v (ts.drop k)) (λ i=>ts.length-(intOf i).toNat)
 exact⟨0,Nat.zero_le _,rfl,rfl⟩
 case round=>
  obtain⟨k,hk,rfl,aE⟩:=hrel;have HF:=zC aE;clear aE
  by_cases aF:k<ts.length
  ·obtain⟨g,cap,hv,iF,aZ,bO,bQ,hc⟩:=zmd h0 k aF;injection hv with h1 h2 h3
   subst h1 h3;have aP:znc v (ts.drop k)=((ts[k].1&&ts[k].2.toList==v.toList)||znc v (ts.drop (k+1))):=zkb aF;have aC:=zC ((zA HF).trans aP);clear HF aP
   cases hb:ts[k].1 with
   | true=>
    rw[hb] at hc;unfold zec at hc;rw[if_pos rfl] at hc
    cases hq:ts[k].2.toList==v.toList with
    | true=>
     have aO:=zC (show znc v ts=true by rw[zA aC,hb,hq];rfl);clear aC hb;go_wp2_with fail;go_ret;exact⟨by rw[zA aO];rfl,PD⟩
    | false=>
     have aO:=zC (show znc v ts=znc v (ts.drop (k+1)) by rw[zA aC,hb,hq];rfl);clear aC hb;go_wp2_with fail
     go_round
     case rel=>exact⟨k+1,by omega,by go_num,zA aO⟩
     case measure=>simp[intOf];omega
   | false=>
    rw[hb] at hc;unfold zec at hc;rw[if_neg (by decide)] at hc;have aO:=zC (show znc v ts=znc v (ts.drop (k+1)) by rw[zA aC,hb];rfl);clear aC hb;go_wp2_with fail
    go_round
    case rel=>exact⟨k+1,by omega,by go_num,zA aO⟩
    case measure=>simp[intOf];omega
  ·have aC:=zC (show znc v ts=false by rw[zA HF,List.drop_of_length_le (by omega)];rfl);clear HF;go_wp2_with fail;go_ret;exact⟨by rw[zA aC];rfl,PD⟩
end
section
open Go.RowKit
def vQ (x:vK × Value):V8:=[.string x.1.pd,x.2]
theorem yc9 (x:vK × Value):(vQ x).length=2:=rfl
theorem zwx (x:vK × Value):(x.1.cells x.2).length=3:=rfl
def vA (b:Bool)(x:vK × Value):Bool:=x.1.neg==b
variable {ls:List (vK × Value)} {bv:Value} {base:Nat} {w:W8}
theorem iL.below {w':W8}(h:iL w base bv ls)(hb:Below w.heap.size w w'):iL w' base bv ls:=
 ⟨zJ h.row hb (λ g e=>(h.row.lt g e).2),λ x hx=>zJ (h.each x hx) hb (λ g e=>((h.each x hx).lt g e).2)⟩
theorem z2p:(Tryz.prog.info? 79).map (λ i=>(i.zero,i.size,i.bytes))=some (some (.agg #[.string { data:=#[] },.slice none 0 0]),2,40):=by kernel_rfl
theorem z7x (w1:W8)(o:Obj)(x:vK × Value)(j:Nat)(u:Value)(h:(vQ x)[j]?=some u):((w1.alloc o).alloc (Obj.cells #[.string x.1.pd,x.2] 79)).cell? ((⟨w1.heap.size+1,0,none⟩:Addr).add j)=some u:=by
 have e:(⟨w1.heap.size+1,0,none⟩:Addr).add j=⟨w1.heap.size+1,j,none⟩:=by unfold Addr.add;split <;> simp_all
 rw[e,World.cell?_alloc_at _ _ _ _ (by simp)];simpa[vQ] using h
theorem yby (L:vK)(a:O8)(n c:Nat):∀ u∈vQ (L,.slice a n c),u.oneCell'=true:=by
 intro u hu;simp[vQ] at hu;rcases hu with rfl | rfl <;> rfl
structure ES (w:W8)(base:Nat)(bv:Value)(ls l:List (vK × Value))(v:Value)(wr:W8):Prop where
 lits:iL wr base bv ls
 row:wr.ownsRow (w.heap.size+1) 79 2 v l.length (l.flatMap vQ)
 below:Below w.heap.size w wr
 sz:w.heap.size<wr.heap.size
theorem ES.alloc {w:W8}{base:Nat}{bv:Value}{ls l:List (vK × Value)}{v:Value}{wr:W8}(h:ES w base bv ls l v wr)(o:Obj):ES w base bv ls l v (wr.alloc o):=
 have hs:=h.sz
 ⟨h.lits.below (B9.alloc L9 _),h.row.alloc o,h.below.alloc (by omega) _,by simp;omega⟩
theorem ES.append {l:List (vK × Value)}{v v':Value}{wr w5:W8}(h:ES w base bv ls l v wr)(Dc:∀ x∈ls,∀ g,x.2.ownBlock=some g->g<w.heap.size)(eo:∀ g,bv.ownBlock=some g->g<w.heap.size){x:vK × Value}(ay:w5.ownsRow (w.heap.size+1) 79 2 v' (l.length+1) (l.flatMap vQ++vQ x))(hg:wr.grownBy w5 v.ownBlock):ES w base bv ls (l++[x]) v' w5:=by
 have hs:=h.sz;have hb:∀ g,g<w.heap.size->w5.heap[g]?=wr.heap[g]?:=λ g nE=>hg.block g (by omega) (λ e=>by have:=(h.row.lt g e.symm).1;omega)
 refine⟨⟨zZ h.lits.row (λ g e=>hb g (eo g e)),λ y hy=>zZ (h.lits.each y hy) (λ g e=>hb g (Dc y hy g e))⟩,?_,h.below.trans ⟨hg.os,hg.tape,hg.output,hg.size,hb⟩,by have:=hg.size;omega⟩;simpa using ay
theorem zhp {α:Type}{f:α->Bool}{l:List α}{k:Nat}(h:k<l.length):(l.take (k+1)).filter f=(l.take k).filter f++(if f l[k] then [l[k]] else []):=by
 rw[List.take_succ_eq_append_getElem h,List.filter_append]
 congr 1
 cases hf:f l[k] <;> simp[hf]
theorem zq5 (w:W8)(base:Nat)(pd:B8)(ah:O8)(nh ch:Nat)(ab:O8)(cb:Nat)(ls:List (vK × Value))(neg:Bool)(h:iL w base (.slice ab ls.length cb) ls)(hl:ls.length<=1000):
  Calls Tryz.prog 217 #[.agg #[.string pd,.slice ah nh ch,.slice ab ls.length cb],.bool neg] w λ e w'=>∃ (a:O8) (c:Nat),e=.returned (.slice a (ls.filter (vA neg)).length c)/\w'.ownsRow (w.heap.size+1) 79 2 (.slice a (ls.filter (vA neg)).length c) (ls.filter (vA neg)).length ((ls.filter (vA neg)).flatMap vQ)/\Below w.heap.size w w'/\w.heap.size<w'.heap.size:=by
 obtain⟨i0,hi,bL,aY,bg⟩:=info_parts z2p;have uK:=zC (λ g (e:(Value.slice ab ls.length cb).ownBlock=some g)=>(h.row.lt g e).2);have sy:=zC (λ x (hx:x∈ls) g (e:x.2.ownBlock=some g)=>((h.each x hx).lt g e).2);have b1:=(Below.refl w.heap.size w).alloc L9 (.cells #[.string pd,.slice ah nh ch,.slice ab ls.length cb] 123);have h0:ES w base (.slice ab ls.length cb) ls [] (.slice none 0 0) (w.alloc (.cells #[.string pd,.slice ah nh ch,.slice ab ls.length cb] 123)):=⟨h.below b1,World.ownsRow_nil _ _ _ _,b1,by simp⟩;clear h b1;go_enter Tryz.func217,Tryz.ntmps217;go_wp2_with fail
 go_loopg [5,11] ls.length (λ gg v i wr=>∃ k:Nat,k<=ls.length/\gg=ls.length-k/\i=.int .i64 k/\ES w base (.slice ab ls.length cb) ls ((ls.take k).filter (vA neg)) v wr)
 exact⟨0,Nat.zero_le _,rfl,rfl,h0⟩
 case round=>
  clear h0;obtain⟨k,hk,eD,rfl,hinv⟩:=hrel;obtain⟨a1,ei,rfl⟩:=zD hinv.row
  by_cases aF:k<ls.length
  ·obtain⟨g,cap,hv,iF,aZ,bO,bQ,hc⟩:=vX zwx hinv.lits.row k aF;injection hv with h1 h2 h3
   subst h1 h3;obtain⟨br,dL,fo⟩:=zD (hinv.lits.each _ (List.getElem_mem aF));have q0:=hc 0 (by omega);have q1:=hc 1 (by omega);have q2:=hc 2 (by omega);simp only[vK.cells,fo,Nat.add_zero,List.getElem?_cons_zero,List.getElem?_cons_succ] at q0 q1 q2;have hI:=hinv.alloc (.cells #[.bool ls[k].1.neg,.string ls[k].1.pd,.slice br ls[k].1.ts.length dL] 183);have ko:((ls.take k).filter (vA neg)).length<=1000:=Nat.le_trans (List.length_filter_le _ _) (by simp;omega);have bj:=hI.sz;rw[World.size_alloc] at bj;clear hc
   cases hq:(ls[k].1.neg==neg) with
   | true=>
    have hf:vA neg ls[k]=true:=hq;have HT:=zC (zhp (f:=vA neg) aF);have hx:ls[k]=(ls[k].1,Value.slice br ls[k].1.ts.length dL):=(by rw[<-fo]);have HX:=zC hx;have VP:=zC hf;have bH:=(hI.alloc (.cells #[.string ls[k].1.pd,.slice br ls[k].1.ts.length dL] 79)).row;have HI:=zC (hI.alloc (.cells #[.string ls[k].1.pd,.slice br ls[k].1.ts.length dL] 79));clear hinv hI fo hf hx;go_wp2_with (at_builtin;refine wpList_append_own _ rfl _ _ 289 rfl (w.heap.size+1) 79 i0 _ 2 40 Tryz.underlying289 hi bL aY bg rfl (by decide) _ _ _ rfl bH ⟨wr.heap.size+1,0,none⟩ 1 1 (vQ (ls[k].1,.slice br ls[k].1.ts.length dL)) rfl rfl (z7x wr _ (ls[k].1,.slice br ls[k].1.ts.length dL)) (yby _ _ _ _) (by unfold maxLen;omega) (by omega) (by simp;omega) ?_);intro v5 w5 aq aU hne5;clear hne5;obtain⟨a5,eH,rfl⟩:=zD aq;have J4:=(zA HI).append (zA sy) (zA uK) aq aU;have ym:=zC J4;clear aq aU bH J4 HI;go_wp2_with fail;go_roundg (ls.length-(k+1))
    case measure=>omega
    case rel=>
     refine⟨k+1,by omega,rfl,by go_num,?_⟩;rw[zA HT,if_pos (zA VP),zA HX];exact zA ym
   | false=>
    have hf:vA neg ls[k]=false:=hq;have HT:=zC (show (ls.take (k+1)).filter (vA neg)=(ls.take k).filter (vA neg) by rw[zhp aF,hf];simp);have HI:=zC hI;clear hinv hI hf fo;go_wp2_with fail;go_roundg (ls.length-(k+1));exact⟨k+1,by omega,rfl,by go_num,by rw[zA HT];exact zA HI⟩;omega
  ·have e:(ls.take k).filter (vA neg)=ls.filter (vA neg):=(by rw[List.take_of_length_le (by omega)]);rw[e] at hinv ⊢;have HI:=zC hinv;clear hinv;go_wp2_with fail;go_ret;exact⟨_,_,rfl,(zA HI).row,(zA HI).below,(zA HI).sz⟩
theorem zfo (w:W8)(base:Nat)(pd:B8)(ah:O8)(nh ch:Nat)(ab:O8)(cb:Nat)(ls:List (vK × Value))(h:iL w base (.slice ab ls.length cb) ls)(hl:ls.length<=1000):
  Calls Tryz.prog 164 #[.agg #[.string pd,.slice ah nh ch,.slice ab ls.length cb]] w λ e w'=>∃ (a:O8) (c:Nat),e=.returned (.slice a (ls.filter (vA false)).length c)/\w'.ownsRow (w.heap.size+1) 79 2 (.slice a (ls.filter (vA false)).length c) (ls.filter (vA false)).length ((ls.filter (vA false)).flatMap vQ)/\Below w.heap.size w w'/\w.heap.size<w'.heap.size:=by
 have b1:=(Below.refl w.heap.size w).alloc L9 (.cells #[.string pd,.slice ah nh ch,.slice ab ls.length cb] 123);have h0:=h.below b1;clear h;go_enter Tryz.func164,Tryz.ntmps164;go_wp2_with fail;refine (zq5 _ base pd ah nh ch ab cb ls false h0 hl).mono ?_;rintro e w1 ⟨a,c,rfl,hr,hb,hz⟩;go_wp2_with fail;go_ret;refine⟨a,c,rfl,zG hr (by simp),b1.trans (hb.mono (by simp)),by simp at hz;omega⟩
def zjk (v:B8)(ls:List vK):Bool:=(ls.filter λ l=>l.neg==false).any λ l=>znc v l.ts
theorem z1g (w:W8)(base:Nat)(pd v:B8)(ah:O8)(nh ch:Nat)(ab:O8)(cb:Nat)(ls:List (vK × Value))(h:iL w base (.slice ab ls.length cb) ls)(hl:ls.length<=1000):
  Calls Tryz.prog 176 #[.agg #[.string pd,.slice ah nh ch,.slice ab ls.length cb],.string v] w λ e w'=>e=.returned (.bool (zjk v (ls.map (·.1))))/\Below w.heap.size w w':=by
 have b1:=(Below.refl w.heap.size w).alloc L9 (.cells #[.string pd,.slice ah nh ch,.slice ab ls.length cb] 123);have h0:=h.below b1;have ko:(ls.filter (vA false)).length<=1000:=Nat.le_trans (List.length_filter_le _ _) hl;have Pu:∀ x∈ls.filter (vA false),w.ownsRow base 191 1 x.2 x.1.ts.length (xH x.1.ts):=λ x hx=>h.each x (List.mem_filter.1 hx).1
 have heq:zjk v (ls.map (·.1))=(ls.filter (vA false)).any λ x=>znc v x.1.ts:=by
  unfold zjk;rw[List.filter_map,List.any_map];rfl
 rw[heq];have hP:=zfo _ base pd ah nh ch ab cb ls h0 hl;obtain⟨l,hZ⟩:∃ l,ls.filter (vA false)=l:=⟨_,rfl⟩;rw[hZ] at ko Pu hP ⊢;have sy:=zC Pu;clear h heq Pu hZ;go_enter Tryz.func176,Tryz.ntmps176;go_wp2_with fail;refine hP.mono ?_;rintro e w1 ⟨a,c,rfl,hr,hb,hz⟩;have aL:Below w.heap.size w w1:=b1.trans (hb.mono (by simp));rw[World.size_alloc] at hr hz;clear h0 hb b1 hP;go_wp2_with fail
 go_loopg [10] l.length (λ gg i wr=>∃ k:Nat,k<=l.length/\gg=l.length-k/\i=.int .i64 k/\wr.ownsRow (w.heap.size+1+1) 79 2 (.slice a l.length c) l.length (l.flatMap vQ)/\Below w.heap.size w wr/\w.heap.size<wr.heap.size/\(l.any λ x=>znc v x.1.ts)=(l.drop k).any λ x=>znc v x.1.ts)
 exact⟨0,Nat.zero_le _,rfl,rfl,hr,aL,by omega,rfl⟩
 case round=>
  clear hr aL hz;obtain⟨k,hk,eD,rfl,hr,hb,bj,aE⟩:=hrel;have HF:=zC aE;clear aE
  by_cases aF:k<l.length
  ·obtain⟨g,cap,hv,iF,aZ,bO,bQ,hc⟩:=vX yc9 hr k aF;injection hv with h1 h2 h3
   subst h1 h3;have ay:=zA sy _ (List.getElem_mem aF);obtain⟨br,dL,fo⟩:=zD ay;have q0:=hc 0 (by omega);have q1:=hc 1 (by omega);simp only[vQ,fo,Nat.add_zero,List.getElem?_cons_zero,List.getElem?_cons_succ] at q0 q1;rw[fo] at ay;have bA:=(Below.refl wr.heap.size wr).alloc L9 (.cells #[.string l[k].1.pd,.slice br l[k].1.ts.length dL] 79);have bH:=zJ ay (hb.trans (bA.mono (by omega))) (λ x e=>(ay.lt x e).2);have aC:=zC ((zA HF).trans (zkb aF));have HR:=zC hr;clear hc HF ay fo hr;go_wp2_with fail;refine (z2l _ base l[k].1.pd v br dL l[k].1.ts bH).mono ?_;rintro e w2 ⟨rfl,aK⟩;have M4:Below wr.heap.size wr w2:=bA.trans (aK.mono (by simp));have bg:=M4.size
   cases hq:znc v l[k].1.ts with
   | true=>
    have aO:=zC (show (l.any λ x=>znc v x.1.ts)=true by rw[zA aC,hq];rfl);clear aC hq q0 q1 bH aK bA;go_wp2_with fail;go_ret;exact⟨by rw[zA aO];rfl,hb.trans (M4.mono (by omega))⟩
   | false=>
    have aO:=zC (show (l.any λ x=>znc v x.1.ts)=(l.drop (k+1)).any λ x=>znc v x.1.ts by rw[zA aC,hq];rfl);have mG:=zC (zJ (zA HR) M4 (λ x e=>((zA HR).lt x e).2));clear aC hq q0 q1 bH aK bA HR;go_wp2_with fail;go_roundg (l.length-(k+1));exact⟨k+1,by omega,rfl,by go_num,zA mG,hb.trans (M4.mono (by omega)),by omega,zA aO⟩;omega
  ·have aC:=zC (show (l.any λ x=>znc v x.1.ts)=false by rw[zA HF,List.drop_of_length_le (by omega)];rfl);clear HF;go_wp2_with fail;go_ret;exact⟨by rw[zA aC];rfl,hb⟩
end
section
open Go.RowKit Go.Maps
theorem zr6 (w:W8)(base:Nat)(pd:B8)(ah:O8)(nh ch:Nat)(ab:O8)(cb:Nat)(ls:List (vK × Value))(h:iL w base (.slice ab ls.length cb) ls)(hl:ls.length<=1000):
  Calls Tryz.prog 223 #[.agg #[.string pd,.slice ah nh ch,.slice ab ls.length cb]] w λ e w'=>∃ (a:O8) (c:Nat),e=.returned (.slice a (ls.filter (vA true)).length c)/\w'.ownsRow (w.heap.size+1) 79 2 (.slice a (ls.filter (vA true)).length c) (ls.filter (vA true)).length ((ls.filter (vA true)).flatMap vQ)/\Below w.heap.size w w'/\w.heap.size<w'.heap.size:=by
 have b1:=(Below.refl w.heap.size w).alloc L9 (.cells #[.string pd,.slice ah nh ch,.slice ab ls.length cb] 123);have h0:=h.below b1;clear h;go_enter Tryz.func223,Tryz.ntmps223;go_wp2_with fail;refine (zq5 _ base pd ah nh ch ab cb ls true h0 hl).mono ?_;rintro e w1 ⟨a,c,rfl,hr,hb,hz⟩;go_wp2_with fail;go_ret;refine⟨a,c,rfl,zG hr (by simp),b1.trans (hb.mono (by simp)),by simp at hz;omega⟩
def zl2 (x:vK × Value):jZ × Value:=(⟨x.1.pd,x.1.ts⟩,x.2)
def vV (b:Bool)(ls:List (vK × Value)):List (jZ × Value):=(ls.filter (vA b)).map zl2
theorem Zu (b:Bool)(ls:List (vK × Value)):(vV b ls).flatMap zk1=(ls.filter (vA b)).flatMap vQ:=by
 unfold vV;rw[List.flatMap_map];rfl
theorem Mj (b:Bool)(ls:List (vK × Value)):(vV b ls).length=(ls.filter (vA b)).length:=by unfold vV;simp
variable {w:W8}
theorem zo5 {No:Nat->Prop}{w':W8}{base base':Nat}{bv v:Value}{ls:List (vK × Value)}{b:Bool}(h:iL w base bv ls)(hk:Below w.heap.size w w')(hr:w'.ownsRow base' 79 2 v (ls.filter (vA b)).length ((ls.filter (vA b)).flatMap vQ))(hb:∀ g,No g->g<base')(ht:∀ x∈ls,∀ g,x.2.ownBlock=some g->¬ No g)(hf:∀ x∈ls,x.1.ts.length<=4):j1 No w' v (vV b ls):=by
 have key:∀ x∈vV b ls,∃ y∈ls,x=zl2 y:=λ x hx=>by
  obtain⟨y,hy,rfl⟩:=List.mem_map.1 hx;exact⟨y,(List.mem_filter.1 hy).1,rfl⟩
 refine⟨⟨base',by rw[Mj,Zu];exact hr⟩,λ x hx=>?_,λ g hg hn=>?_,λ x hx g hg=>?_,λ x hx=>?_⟩
 ·obtain⟨y,hy,rfl⟩:=key x hx;exact⟨base,zJ (h.each y hy) hk (λ g e=>((h.each y hy).lt g e).2)⟩
 ·have:=(hr.lt g hg).1;have:=hb g hn;omega
 ·obtain⟨y,hy,rfl⟩:=key x hx;exact ht y hy g hg
 ·obtain⟨y,hy,rfl⟩:=key x hx;exact hf y hy
def SV (w:W8)(b:Nat)(pv nv mv fv:Value):Prop:=w.heap[b]?=some (.cells #[pv,nv,mv,fv] 361 (0,0))
noncomputable def zsx (p v:Value):Sem Unit:=Instr.storeAt 361 p v
noncomputable def z4x (h:Bool)(v:Value):Sem Value:=Instr.alloc 361 h v
theorem z5h (p v:Value):Instr.storeAt 361 p v=zsx p v:=rfl
theorem z5g (h:Bool)(v:Value):Instr.alloc 361 h v=z4x h v:=rfl
theorem zzk (w:W8)(v:Value):(z4x true v).run Tryz.prog w=.ok (.pointer (some ⟨w.heap.size,0,none⟩)) (w.alloc (.cells #[.slice none 0 0,.slice none 0 0,.map none,.nilFunc] 361)):=by
 unfold z4x;simp[Instr.alloc,newVar,newRow,go_sem]
theorem zyl:(Tryz.prog.info? 361).map (·.size)=some 4:=by kernel_rfl
theorem SV.store {b:Nat}{p0 n0 m0 f0:Value}(h:SV w b p0 n0 m0 f0){pv nv mv fv:Value}(h1:pv.oneCell'=true)(h2:nv.oneCell'=true)(h3:mv.oneCell'=true)(h4:fv.oneCell'=true):(zsx (.pointer (some ⟨b,0,none⟩)) (.agg #[pv,nv,mv,fv])).run Tryz.prog w=.ok () (w.setRow b #[pv,nv,mv,fv]):=by
 unfold zsx Instr.storeAt Instr.sureAddr;simp only[Sem.run_bind,Sem.run_pure,Result.andThen_ok];exact run_storeVar_row w b _ 361 _ _ h (by rw[zyl];rfl) rfl (by simp[h1,h2,h3,h4])
end
section
open Go.RowKit Go.Maps
attribute [local go_sem ↓] zcf zba zc1 j2 z5h z5g
attribute [local go_sem] qS zbo zzk
variable {W:W8}
theorem zth {m m' l:Nat}{args:Array Value}{R:Ending->W8->Prop}(h:YieldAt Fence.wide m Tryz.prog l args W R):YieldAt Fence.wide m' Tryz.prog l args W R:=by
 obtain⟨fn,tmps,assign,body,hy,hF,hR⟩:=h;exact⟨fn,tmps,assign,body,hy,hF,λ c cs _=>hR c cs (room_wide _)⟩
structure IF (No:Nat->Prop)(w:W8)(rb xb eb mb:Nat)(pd:B8)(hv bv:Value)(base:Nat)(ls:List (vK × Value))(K:List (Th × Nat))(e:yR):Prop where
 r:w.heap[rb]?=some (.cells #[.string pd,hv,bv] 123 (0,0))
 x:w.heap[xb]?=some (.cells #[.map (some mb)] 82 (0,0))
 b:BV w eb e
 l:iL w base bv ls
 m:qR w mb K
 nm:¬ No mb
 nt:∀ x∈ls,∀ g,x.2.ownBlock=some g->¬ No g
 no:∀ g,No g->g<w.heap.size
 l3:ls.length<=3
 t4:∀ x∈ls,x.1.ts.length<=4
 h:∃ a n c,hv=.slice a n c
theorem IF.below {No:Nat->Prop}{w w':W8}{rb xb eb mb:Nat}{pd:B8}{hv bv:Value}{base:Nat}{ls:List (vK × Value)}{K:List (Th × Nat)}{e:yR}(h:IF No w rb xb eb mb pd hv bv base ls K e)(k:Below w.heap.size w w'):IF No w' rb xb eb mb pd hv bv base ls K e:=
 ⟨(k.block _ (Array.getElem?_eq_some_iff.1 h.r).1).trans h.r,(k.block _ (Array.getElem?_eq_some_iff.1 h.x).1).trans h.x,h.b.below k,h.l.below k,h.m.block (k.block _ h.m.lt),h.nm,h.nt,λ g hg=>by have:=h.no g hg;have:=k.size;omega,h.l3,h.t4,h.h⟩
theorem SV.new (w:W8)(pv nv mv fv:Value):SV (w.alloc (.cells #[pv,nv,mv,fv] 361)) w.heap.size pv nv mv fv:=heap_alloc_new w _
variable {pv nv:Value} {w w':W8}
theorem SV.below {b:Nat}{mv fv:Value}(h:SV w b pv nv mv fv)(k:Below w.heap.size w w'):SV w' b pv nv mv fv:=(k.block b (Array.getElem?_eq_some_iff.1 h).1).trans h
theorem SV.put {b:Nat}{p0 n0 m0 f0:Value}(h:SV w b p0 n0 m0 f0)(a a':O8)(n n' c c' m l:Nat):(zsx (.pointer (some ⟨b,0,none⟩)) (.agg #[.slice a n c,.slice a' n' c',.map (some m),.func (.yield l) #[] #[]])).run Tryz.prog w=.ok () (w.setRow b #[.slice a n c,.slice a' n' c',.map (some m),.func (.yield l) #[] #[]]):=h.store rfl rfl rfl rfl
theorem zzl (w:W8)(p0 n0 m0 f0:Value)(a a':O8)(n n' c c' m l:Nat):(zsx (.pointer (some ⟨w.heap.size,0,none⟩)) (.agg #[.slice a n c,.slice a' n' c',.map (some m),.func (.yield l) #[] #[]])).run Tryz.prog (w.alloc (.cells #[p0,n0,m0,f0] 361))=.ok () (w.alloc (.cells #[.slice a n c,.slice a' n' c',.map (some m),.func (.yield l) #[] #[]] 361)):=by
 rw[(SV.new w p0 n0 m0 f0).put,World.setRow_alloc_new]
variable {sb:Nat} {As:List (jZ × Value)} {v:Value} {No:Nat->Prop}
theorem j1.setRow (h:j1 No w v As)(cs:Array Value)(h1:∀ g,v.ownBlock=some g->g≠sb)(h2:∀ x∈As,∀ g,x.2.ownBlock=some g->g≠sb):j1 No (w.setRow sb cs) v As:=
 ⟨let ⟨b,hb⟩:=h.row;⟨b,zZ hb (λ g hg=>setRow_other w sb g cs (h1 g hg))⟩,λ x hx=>let ⟨b,hb⟩:=h.ae x hx;⟨b,zZ hb (λ g hg=>setRow_other w sb g cs (h2 x hx g hg))⟩,h.ap,h.O7,h.eJ⟩
theorem j1.below (h:j1 No w v As)(k:Below w.heap.size w w'):j1 No w' v As:=h.kZ (qH.ak k)
structure RL (No:Nat->Prop)(W:W8)(ls:List (vK × Value))(sb:Nat)(pv nv:Value)(V:W8):Prop where
 p:j1 No V pv (vV false ls)
 n:j1 No V nv (vV true ls)
 pb:∀ g,pv.ownBlock=some g->g≠sb
 nb:∀ g,nv.ownBlock=some g->g≠sb
 tb:∀ x∈ls,∀ g,x.2.ownBlock=some g->g<W.heap.size
 k:Below W.heap.size W V
variable {ls:List (vK × Value)}
theorem zi8 {b:Bool}{x:jZ × Value}(hx:x∈vV b ls):∃ y∈ls,x=zl2 y:=by
 obtain⟨y,hy,rfl⟩:=List.mem_map.1 hx;exact⟨y,(List.mem_filter.1 hy).1,rfl⟩
theorem RL.set {V:W8}(h:RL No W ls sb pv nv V)(hs:W.heap.size<=sb)(cs:Array Value):j1 No (V.setRow sb cs) pv (vV false ls)/\j1 No (V.setRow sb cs) nv (vV true ls)/\Below W.heap.size W (V.setRow sb cs):=
 ⟨h.p.setRow cs h.pb (λ x hx g hg=>by obtain⟨y,hy,rfl⟩:=zi8 hx;have:=h.tb y hy g hg;omega),h.n.setRow cs h.nb (λ x hx g hg=>by obtain⟨y,hy,rfl⟩:=zi8 hx;have:=h.tb y hy g hg;omega),xN h.k hs cs⟩
theorem zu3 {w5:W8}{rb xb eb mb:Nat}{pd:B8}{hv bv:Value}{base:Nat}{K:List (Th × Nat)}{e:yR}(h:IF No W rb xb eb mb pd hv bv base ls K e)(hB:Below W.heap.size W w5){V4 V5:Nat}(hp:w5.ownsRow (V4+1) 79 2 pv (ls.filter (vA false)).length ((ls.filter (vA false)).flatMap vQ))(hn:w5.ownsRow (V5+1) 79 2 nv (ls.filter (vA true)).length ((ls.filter (vA true)).flatMap vQ))(h4:W.heap.size<=V4)(h5:W.heap.size<=V5)(sb:Nat)(pb:∀ g,pv.ownBlock=some g->g≠sb)(nb:∀ g,nv.ownBlock=some g->g≠sb):RL No W ls sb pv nv w5:=
 ⟨zo5 h.l hB hp (λ g hg=>by have:=h.no g hg;omega) h.nt h.t4,zo5 h.l hB hn (λ g hg=>by have:=h.no g hg;omega) h.nt h.t4,pb,nb,λ x hx g hg=>((h.l.each x hx).lt g hg).2,hB⟩
def yP (ls:List (vK × Value)):List jZ:=(vV false ls).map (·.1)
def zcv (ls:List (vK × Value)):List jZ:=(vV true ls).map (·.1)
abbrev nO (K:List (Th × Nat))(ls:List (vK × Value))(e:yR):={ x:yR // x∈zbe K (zcv ls) (yP ls) e }
def zhl (ls:List (vK × Value)):List B8:=(yP ls).flatMap λ x=>x.ts.map (·.2)
theorem zhm {x:jZ}(hx:x∈yP ls){t:zdy}(ht:t∈x.ts):t.2∈zhl ls:=List.mem_flatMap.2 ⟨x,hx,List.mem_map_of_mem ht⟩
theorem zlx {α β:Type}{f:α->List β}{n:Nat}:∀ (l:List α),(∀ x∈l,(f x).length<=n)->(l.flatMap f).length<=n*l.length
 | [],_=>by simp
 | x::l,h=>by
  have h1:=h x List.mem_cons_self;have h2:=zlx l (λ y hy=>h y (List.mem_cons_of_mem _ hy));rw[List.flatMap_cons,List.length_append,List.length_cons,Nat.mul_succ];omega
theorem zmj (h3:ls.length<=3)(h4:∀ x∈ls,x.1.ts.length<=4):(zhl ls).length<=12:=by
 have h1:=zlx (n:=4) (f:=λ x:jZ=>x.ts.map (·.2)) (yP ls) (λ x hx=>by
  obtain⟨y,hy,rfl⟩:=List.mem_map.1 hx;obtain⟨z,hz,rfl⟩:=zi8 hy;rw[List.length_map]
  exact h4 z hz)
 have h2:(yP ls).length<=3:=by unfold yP;rw[List.length_map,Mj];exact Nat.le_trans (List.length_filter_le _ _) h3
 unfold zhl;omega
theorem zm9 (No:Nat->Prop)(n:Nat)(w:W8)(rb xb eb mb:Nat)(pd:B8)(hv bv:Value)(base:Nat)(ls:List (vK × Value))(K:List (Th × Nat))(e:yR)(h:IF No w rb xb eb mb pd hv bv base ls K e)(bR:∀ e'∈yD K (yP ls) e,∀ x∈zcv ls,zdu (xV e' x))(xh:vZ (zhl ls) e):
  SeqStopsK Fence.wide n Tryz.prog 233 #[.pointer (some ⟨rb,0,none⟩),.pointer (some ⟨xb,0,none⟩),.pointer (some ⟨eb,0,none⟩)] (λ x:nO K ls e=>#[zav x.1]) (qH No) (λ xs=>∀ x,x∈xs) (λ _=>True) (K.length ^ (yP ls).length) w:=by
 intro l J' SH W hW MW hJx' hY JW;have hI:=h.below hW;obtain⟨J,Ic⟩:∃ J:List yR->W8->Prop,J=λ pre V=>∃ Ba:List (nO K ls e),Ba.map (·.1)=pre/\J' Ba V:=⟨_,rfl⟩
 obtain⟨Jx,FN⟩:∃ Jx:List yR->W8->Prop,Jx=λ pre V=>∃ Ba:List (nO K ls e),Ba.map (·.1)=pre/\SH Ba V:=⟨_,rfl⟩
 have hJ:AbidesFrom W.heap.size J:=λ s A B row hs hg hr=>by
  rw[Ic] at hs ⊢;obtain⟨p',h1,h2⟩:=hs;exact⟨p',h1,MW p' A B row h2 hg hr⟩
 have h0:J [] W:=by rw[Ic];exact⟨[],rfl,JW⟩
 have hR:z0z No l (K.length ^ (yP ls).length) (λ x=>x∈zbe K (zcv ls) (yP ls) e) J Jx:=λ m pre x W1 hx h1 h2=>by
  rw[Ic] at h1;obtain⟨p',Gr,h1⟩:=h1;refine zth (YieldAt.mono (hY p' ⟨x,hx⟩ W1 h1 (by rw[<-Gr,List.length_map] at h2;exact h2)) ?_);rintro en W' (⟨rfl,h3,h4⟩ | ⟨rfl,h3⟩)
  ·exact⟨true,rfl,λ _=>⟨by rw[Ic];exact⟨p'++[⟨x,hx⟩],by simp[Gr],h3⟩,h4⟩,λ h=>by cases h⟩
  ·exact⟨false,rfl,(λ h=>by cases h),λ _=>by rw[FN];exact⟨p'++[⟨x,hx⟩],by simp[Gr],h3⟩⟩
 have V0:=zC Ic;have On:=zC FN;refine callsIn_wide.2 ?_;obtain⟨ab,cb,rfl⟩:=zD h.l.row;obtain⟨ah,nh,ch,rfl⟩:=h.h;obtain⟨c0,-⟩:=zB hI.r 0;obtain⟨c1,-⟩:=zB hI.r 1;obtain⟨c2,-⟩:=zB hI.r 2;obtain⟨d0,-⟩:=zB hI.x 0;have l3:=hI.l3;have nH:=(Array.getElem?_eq_some_iff.1 hI.r).1;have EK:=(Array.getElem?_eq_some_iff.1 hI.x).1;have HI:=zC hI;have HJ:=zC hJ;have HR:=zC hR;have Oj:=zC h0;have iN:=zC bR;have Ff:=zC xh;simp only[List.getElem?_toArray,List.getElem?_cons_zero,List.getElem?_cons_succ] at c0 c1 c2 d0;have HP:=zC (λ (V:W8) (hV:Below W.heap.size W V)=>zfo V base pd ah nh ch ab cb ls (hI.l.below hV) (by omega));have HN:=zC (λ (V:W8) (hV:Below W.heap.size W V)=>zr6 V base pd ah nh ch ab cb ls (hI.l.below hV) (by omega));have HA:=zC (λ (V:W8) (hV:Below W.heap.size W V)=>(show V.cell? ⟨rb,0,none⟩=some (.string pd)/\V.cell? ⟨rb,1,none⟩=some (.slice ah nh ch)/\V.cell? ⟨rb,2,none⟩=some (.slice ab ls.length cb)/\V.cell? ⟨xb,0,none⟩=some (.map (some mb)) from ⟨(hV.cell (p:=⟨rb,0,none⟩) nH).trans c0,(hV.cell (p:=⟨rb,1,none⟩) nH).trans c1,(hV.cell (p:=⟨rb,2,none⟩) nH).trans c2,(hV.cell (p:=⟨xb,0,none⟩) EK).trans d0⟩));clear h hI hR hJ MW hJx' hY h0 JW bR xh hW Ic FN;go_enter Tryz.func233,Tryz.ntmps233;go_upto_region 0 with fail
 go_cut [5] from 6 to 15 (λ p wc=>∃ sb pv nv,p=.pointer (some ⟨sb,0,none⟩)/\W.heap.size<=sb/\SV wc sb pv nv (.map (some mb)) (.func (.yield l) #[] #[])/\j1 No wc pv (vV false ls)/\j1 No wc nv (vV true ls)/\Below W.heap.size W wc)
 case first=>
  have QU:=zzl
  go_region_held3 (λ V=>V.cell? ⟨rb,0,none⟩=some (.string pd)/\V.cell? ⟨rb,1,none⟩=some (.slice ah nh ch)/\V.cell? ⟨rb,2,none⟩=some (.slice ab ls.length cb)/\V.cell? ⟨xb,0,none⟩=some (.map (some mb))) ((refine zA HA _ ?_;first | exact B9.drew | exact (B9.alloc L9 _).drew | exact dN | exact dN.alloc dN.size _ | exact lY | exact lY.alloc lY.size _ | exact xN lY L9 _ | exact xN lY dN.size _)) ((first
   | (go_at_call 164;refine (zA HP _ (by first | exact B9.drew | exact (B9.alloc L9 _).drew)).mono ?_;rintro en w4 ⟨a4,c4,rfl,il,bZ,sl⟩;have dN:Below W.heap.size W w4:=(by first | exact yA bZ | exact zf3 (B9.alloc L9 _) bZ);have B3:=zC il;clear il)
   | (go_at_call 223;refine (zA HN _ (by first | exact dN | exact dN.alloc dN.size _)).mono ?_;rintro en w5 ⟨a5,c5,rfl,Dk,dC,LQ⟩;have lY:Below W.heap.size W w5:=(by first | exact dN.trans (dC.mono dN.size) | exact (dN.alloc dN.size _).trans (dC.mono (by simp;have:=dN.size;omega)));have Hu:=zC Dk;clear Dk;first | (have QV:=(((SV.new W _ _ _ _).below (yA bZ)).below dC).put a4 a5 (ls.filter (vA false)).length (ls.filter (vA true)).length c4 c5 mb l) | (have QV:=((SV.new w4 _ _ _ _).below dC).put a4 a5 (ls.filter (vA false)).length (ls.filter (vA true)).length c4 c5 mb l) | skip)))
  all_goals
   go_wp2_with fail;go_meet
   case rel=>
    have Iw:=zA Hu
    first
     | (have Cg:=zJ (zA B3) dC (λ g e=>((zA B3).lt g e).2);have hR:=zu3 (zA HI) lY Cg Iw L9 dN.size w5.heap.size (λ g hg=>by have:=(Cg.lt g hg).2;omega) (λ g hg=>by have:=(Iw.lt g hg).2;omega);exact⟨_,_,_,rfl,lY.size,SV.new _ _ _ _ _,hR.p.below (B9.alloc L9 _),hR.n.below (B9.alloc L9 _),lY.alloc lY.size _⟩)
     | (have Cg:=zJ (zA B3) ((((Below.refl _ w4).alloc L9 _)).trans (dC.mono (by simp))) (λ g e=>((zA B3).lt g e).2);have hR:=zu3 (zA HI) lY Cg Iw L9 (by simp;have:=dN.size;omega) w4.heap.size (λ g hg=>by have:=((zA B3).lt g hg).2;omega) (λ g hg=>by have:=(Iw.lt g hg).1;simp at this;omega);obtain⟨q1,q2,q3⟩:=hR.set dN.size #[.slice a4 (ls.filter (vA false)).length c4,.slice a5 (ls.filter (vA true)).length c5,.map (some mb),.func (.yield l) #[] #[]];exact⟨_,_,_,rfl,dN.size,setRow_heap _ _ _ _ _ _ ((SV.new w4 _ _ _ _).below dC),q1,q2,q3⟩)
     | (have Cg:=zJ (zA B3) dC (λ g e=>((zA B3).lt g e).2);have hR:=zu3 (zA HI) lY Cg Iw (by simp) dN.size W.heap.size (λ g hg=>by have:=(Cg.lt g hg).1;simp at this;omega) (λ g hg=>by have:=(Iw.lt g hg).1;have:=dN.size;omega);obtain⟨q1,q2,q3⟩:=hR.set L9 #[.slice a4 (ls.filter (vA false)).length c4,.slice a5 (ls.filter (vA true)).length c5,.map (some mb),.func (.yield l) #[] #[]];exact⟨_,_,_,rfl,Nat.le_refl _,setRow_heap _ _ _ _ _ _ (((SV.new W _ _ _ _).below (yA bZ)).below dC),q1,q2,q3⟩)
 case rest=>
  obtain⟨sb,pv,nv,rfl,Lx,Nq,zk,Kh,eo⟩:=hcut;have dG:=(zA HI).below eo;have aX:=(zA HI).no;have hC:Hj No wc sb mb l (vV false ls) (vV true ls) pv nv K:=⟨Nq,λ hn=>by have:=aX _ hn;omega,zk,Kh,dG.m,dG.nm,by rw[Mj];exact Nat.le_trans (List.length_filter_le _ _) dG.l3⟩;have bt:(yP ls).length=(vV false ls).length:=by unfold yP;simp
  have HF:=zC (z65 No sb mb l (vV false ls) (vV true ls) pv nv K (λ x=>x∈zbe K (zcv ls) (yP ls) e) J Jx W.heap.size (K.length ^ (yP ls).length) (zA HJ) (zA HR) aX (zhl ls) (zmj (zA HI).l3 (zA HI).t4) (λ x hx t ht _=>zhm (List.mem_map_of_mem hx) ht) (vV false ls).length 0 e wc [] (Nat.zero_add _) hC (zap (zA HJ) (zA Oj) eo) eo.size (zA Ff) (λ e' ma x hx=>zA iN e' ma x.1 (List.mem_map_of_mem hx)) (by rw[bt];simp) (λ x hx=>hx));have Iq:=dG.b.load;clear dG hC Nq zk Kh;go_wp2_with (go_at_call 234;refine (zA HF).mono ?_;rintro en w6 (⟨rfl,h6⟩ | ⟨rfl,h6⟩) <;> (have H6:=zC h6;clear h6))
  ·go_end0;obtain⟨ys,h1,_,h3,_⟩:=zA H6;rw[List.nil_append,zA V0] at h3;obtain⟨NO,hy,h3⟩:=h3;refine⟨⟨_,rfl⟩,.inl ⟨NO,λ x=>?_,h3⟩⟩;have h4:x.1∈NO.map (·.1):=(by rw[hy];exact (h1 x.1).2 x.2);obtain⟨y,IA,Rc⟩:=List.mem_map.1 h4;rw[<-Subtype.ext Rc];exact IA
  ·go_end0;obtain⟨ys,h1,h3⟩:=zA H6;rw[List.nil_append,zA On] at h3;obtain⟨NO,hy,h3⟩:=h3;exact⟨⟨_,rfl⟩,.inr ⟨NO,trivial,h3⟩⟩
end
end Go.Proofs.YtldkpahaocjdpaaGreat
