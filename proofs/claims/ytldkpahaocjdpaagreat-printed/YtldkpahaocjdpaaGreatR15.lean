/-
  The program's has, atoms, Positive, Binds: whether a variable stands in a positive literal.
-/
import Derived.Test.YtldkpahaocjdpaaGreatR14
import Derived.Laws.EntriesVeiled
set_option maxHeartbeats 16000000
set_option maxRecDepth 1000000
namespace Go.Proofs.YtldkpahaocjdpaaGreat
section
open Go.RowKit
theorem assertVar_yes (W:W8)(v:Value):(Instr.typeAssert (.iface 130 v) 191 130 true).run Tryz.prog W=.ok (.tuple #[v,.bool true]) W:=by kernel_rfl
theorem assertVar_no (W:W8)(v:Value):(Instr.typeAssert (.iface 193 v) 191 130 true).run Tryz.prog W=.ok (.tuple #[.string { data:=#[] },.bool false]) W:=by kernel_rfl
theorem assertName_yes (W:W8)(v:Value):(Instr.typeAssert (.iface 193 v) 191 193 true).run Tryz.prog W=.ok (.tuple #[v,.bool true]) W:=by kernel_rfl
def hasV (v:B8)(ts:List (Bool × B8)):Bool:=ts.any λ t=>t.1&&t.2.toList==v.toList
theorem own_list1 {w:W8}{base:Nat}{tv:Value}{ts:List (Bool × B8)}(h:w.ownsRow base 191 1 tv ts.length (ptCells ts))(k:Nat)(hk:k<ts.length):∃ g cap,tv=.slice (some ⟨g,0,none⟩) ts.length cap/\base<=g/\g<w.heap.size/\ts.length<=cap/\cap<=maxLen/\w.cell? ⟨g,k,none⟩=some (tmVal ts[k].1 ts[k].2):=by
 rcases h.2 with⟨_,h0⟩ | ⟨g,cap,cur,rfl,hb,hg,dG,dx,eZ,ht⟩
 ·omega
 ·refine⟨g,cap,rfl,hb,(Array.getElem?_eq_some_iff.1 hg).1,dG,dx,?_⟩;rw[h.cellAt k (by omega),ptCells,List.getElem?_map,List.getElem?_eq_getElem hk];rfl
theorem has_v_any (w:W8)(base:Nat)(pd v:B8)(a:O8)(c:Nat)(ts:List (Bool × B8))(h:w.ownsRow base 191 1 (.slice a ts.length c) ts.length (ptCells ts)):
  Calls Tryz.prog 221 #[.agg #[.string pd,.slice a ts.length c],.string v] w λ e w'=>e=.returned (.bool (hasV v ts))/\Below w.heap.size w w':=by
 have gl:=own_max h;unfold maxLen at gl;have mA:Below w.heap.size w (w.alloc (.cells #[.string pd,.slice a ts.length c] 79)):=B9.alloc L9 _;have h0:=own_below h mA (λ g e=>(h.lt g e).2);clear h;have Fi:=assertVar_yes;have ya:=assertVar_no;have yX:=assertName_yes;go_enter Tryz.func221,Tryz.ntmps221;go_wp2_with fail
 go_loop [12] (λ i=>∃ k:Nat,k<=ts.length/\i=.int .i64 k/\hasV v ts=hasV v (ts.drop k)) (λ i=>ts.length-(intOf i).toNat)
 exact⟨0,Nat.zero_le _,rfl,rfl⟩
 case round=>
  obtain⟨k,hk,rfl,bj⟩:=hrel;have HF:=hide bj;clear bj
  by_cases aN:k<ts.length
  ·obtain⟨g,cap,hv,iC,dp,dG,dx,hc⟩:=own_list1 h0 k aN;injection hv with h1 h2 h3
   subst h1 h3;have dj:hasV v (ts.drop k)=((ts[k].1&&ts[k].2.toList==v.toList)||hasV v (ts.drop (k+1))):=any_step aN;have bK:=hide ((ad HF).trans dj);clear HF dj
   cases hb:ts[k].1 with
   | true=>
    rw[hb] at hc;unfold tmVal at hc;rw[if_pos rfl] at hc
    cases hq:ts[k].2.toList==v.toList with
    | true=>
     have dE:=hide (show hasV v ts=true by rw[ad bK,hb,hq];rfl);clear bK hb;go_wp2_with fail;go_ret;exact⟨by rw[ad dE];rfl,mA⟩
    | false=>
     have dE:=hide (show hasV v ts=hasV v (ts.drop (k+1)) by rw[ad bK,hb,hq];rfl);clear bK hb;go_wp2_with fail
     go_round
     case rel=>exact⟨k+1,by omega,by go_num,ad dE⟩
     case measure=>simp[intOf];omega
   | false=>
    rw[hb] at hc;unfold tmVal at hc;rw[if_neg (by decide)] at hc;have dE:=hide (show hasV v ts=hasV v (ts.drop (k+1)) by rw[ad bK,hb];rfl);clear bK hb;go_wp2_with fail
    go_round
    case rel=>exact⟨k+1,by omega,by go_num,ad dE⟩
    case measure=>simp[intOf];omega
  ·have bK:=hide (show hasV v ts=false by rw[ad HF,List.drop_of_length_le (by omega)];rfl);clear HF;go_wp2_with fail;go_ret;exact⟨by rw[ad bK];rfl,mA⟩
end
section
open Go.RowKit
def atCells1 (x:PLit × Value):V8:=[.string x.1.pd,x.2]
theorem at_len (x:PLit × Value):(atCells1 x).length=2:=rfl
theorem pl_len (x:PLit × Value):(x.1.cells x.2).length=3:=rfl
def isNeg (b:Bool)(x:PLit × Value):Bool:=x.1.neg==b
variable {ls:List (PLit × Value)} {bv:Value} {base:Nat} {w:W8}
theorem cS.below {w':W8}(h:cS w base bv ls)(hb:Below w.heap.size w w'):cS w' base bv ls:=
 ⟨own_below h.row hb (λ g e=>(h.row.lt g e).2),λ x hx=>own_below (h.each x hx) hb (λ g e=>((h.each x hx).lt g e).2)⟩
theorem infoPAtom:(Tryz.prog.info? 79).map (λ i=>(i.zero,i.size,i.bytes))=some (some (.agg #[.string { data:=#[] },.slice none 0 0]),2,40):=by kernel_rfl
theorem pat_cell (w1:W8)(o:Obj)(x:PLit × Value)(j:Nat)(u:Value)(h:(atCells1 x)[j]?=some u):((w1.alloc o).alloc (Obj.cells #[.string x.1.pd,x.2] 79)).cell? ((⟨w1.heap.size+1,0,none⟩:Addr).add j)=some u:=by
 have e:(⟨w1.heap.size+1,0,none⟩:Addr).add j=⟨w1.heap.size+1,j,none⟩:=by unfold Addr.add;split <;> simp_all
 rw[e,World.cell?_alloc_at _ _ _ _ (by simp)];simpa[atCells1] using h
theorem pat_one (L:PLit)(a:O8)(n c:Nat):∀ u∈atCells1 (L,.slice a n c),u.oneCell'=true:=by
 intro u hu;simp[atCells1] at hu;rcases hu with rfl | rfl <;> rfl
structure kq (w:W8)(base:Nat)(bv:Value)(ls l:List (PLit × Value))(v:Value)(wr:W8):Prop where
 lits:cS wr base bv ls
 row:wr.ownsRow (w.heap.size+1) 79 2 v l.length (l.flatMap atCells1)
 below:Below w.heap.size w wr
 sz:w.heap.size<wr.heap.size
theorem kq.alloc {w:W8}{base:Nat}{bv:Value}{ls l:List (PLit × Value)}{v:Value}{wr:W8}(h:kq w base bv ls l v wr)(o:Obj):kq w base bv ls l v (wr.alloc o):=
 have hs:=h.sz
 ⟨h.lits.below (B9.alloc L9 _),h.row.alloc o,h.below.alloc (by omega) _,by simp;omega⟩
theorem kq.append {l:List (PLit × Value)}{v v':Value}{wr w5:W8}(h:kq w base bv ls l v wr)(vL:∀ x∈ls,∀ g,x.2.ownBlock=some g->g<w.heap.size)(ei:∀ g,bv.ownBlock=some g->g<w.heap.size){x:PLit × Value}(aI:w5.ownsRow (w.heap.size+1) 79 2 v' (l.length+1) (l.flatMap atCells1++atCells1 x))(hg:wr.grownBy w5 v.ownBlock):kq w base bv ls (l++[x]) v' w5:=by
 have hs:=h.sz;have hb:∀ g,g<w.heap.size->w5.heap[g]?=wr.heap[g]?:=λ g jo=>hg.block g (by omega) (λ e=>by have:=(h.row.lt g e.symm).1;omega)
 refine⟨⟨own_block h.lits.row (λ g e=>hb g (ei g e)),λ y hy=>own_block (h.lits.each y hy) (λ g e=>hb g (vL y hy g e))⟩,?_,h.below.trans ⟨hg.os,hg.tape,hg.output,hg.size,hb⟩,by have:=hg.size;omega⟩;simpa using aI
theorem take_filter {α:Type}{f:α->Bool}{l:List α}{k:Nat}(h:k<l.length):(l.take (k+1)).filter f=(l.take k).filter f++(if f l[k] then [l[k]] else []):=by
 rw[List.take_succ_eq_append_getElem h,List.filter_append]
 congr 1
 cases hf:f l[k] <;> simp[hf]
theorem atoms_any (w:W8)(base:Nat)(pd:B8)(ah:O8)(nh ch:Nat)(ab:O8)(cb:Nat)(ls:List (PLit × Value))(neg:Bool)(h:cS w base (.slice ab ls.length cb) ls)(hl:ls.length<=1000):
  Calls Tryz.prog 217 #[.agg #[.string pd,.slice ah nh ch,.slice ab ls.length cb],.bool neg] w λ e w'=>∃ (a:O8) (c:Nat),e=.returned (.slice a (ls.filter (isNeg neg)).length c)/\w'.ownsRow (w.heap.size+1) 79 2 (.slice a (ls.filter (isNeg neg)).length c) (ls.filter (isNeg neg)).length ((ls.filter (isNeg neg)).flatMap atCells1)/\Below w.heap.size w w'/\w.heap.size<w'.heap.size:=by
 obtain⟨i0,hi,dK,ir,bZ⟩:=info_parts infoPAtom;have vk:=hide (λ g (e:(Value.slice ab ls.length cb).ownBlock=some g)=>(h.row.lt g e).2);have wV:=hide (λ x (hx:x∈ls) g (e:x.2.ownBlock=some g)=>((h.each x hx).lt g e).2);have b1:=(Below.refl w.heap.size w).alloc L9 (.cells #[.string pd,.slice ah nh ch,.slice ab ls.length cb] 123);have h0:kq w base (.slice ab ls.length cb) ls [] (.slice none 0 0) (w.alloc (.cells #[.string pd,.slice ah nh ch,.slice ab ls.length cb] 123)):=⟨h.below b1,World.ownsRow_nil _ _ _ _,b1,by simp⟩;clear h b1;go_enter Tryz.func217,Tryz.ntmps217;go_wp2_with fail
 go_loopg [5,11] ls.length (λ gg v i wr=>∃ k:Nat,k<=ls.length/\gg=ls.length-k/\i=.int .i64 k/\kq w base (.slice ab ls.length cb) ls ((ls.take k).filter (isNeg neg)) v wr)
 exact⟨0,Nat.zero_le _,rfl,rfl,h0⟩
 case round=>
  clear h0;obtain⟨k,hk,fM,rfl,hinv⟩:=hrel;obtain⟨a1,kN,rfl⟩:=own_slice hinv.row
  by_cases aN:k<ls.length
  ·obtain⟨g,cap,hv,iC,dp,dG,dx,hc⟩:=row_at pl_len hinv.lits.row k aN;injection hv with h1 h2 h3
   subst h1 h3;obtain⟨cy,fJ,gU⟩:=own_slice (hinv.lits.each _ (List.getElem_mem aN));have q0:=hc 0 (by omega);have q1:=hc 1 (by omega);have q2:=hc 2 (by omega);simp only[PLit.cells,gU,Nat.add_zero,List.getElem?_cons_zero,List.getElem?_cons_succ] at q0 q1 q2;have hI:=hinv.alloc (.cells #[.bool ls[k].1.neg,.string ls[k].1.pd,.slice cy ls[k].1.ts.length fJ] 183);have lE:((ls.take k).filter (isNeg neg)).length<=1000:=Nat.le_trans (List.length_filter_le _ _) (by simp;omega);have hsz:=hI.sz;rw[World.size_alloc] at hsz;clear hc
   cases hq:(ls[k].1.neg==neg) with
   | true=>
    have hf:isNeg neg ls[k]=true:=hq;have HT:=hide (take_filter (f:=isNeg neg) aN);have hx:ls[k]=(ls[k].1,Value.slice cy ls[k].1.ts.length fJ):=(by rw[<-gU]);have HX:=hide hx;have Ha:=hide hf;have bH:=(hI.alloc (.cells #[.string ls[k].1.pd,.slice cy ls[k].1.ts.length fJ] 79)).row;have HI:=hide (hI.alloc (.cells #[.string ls[k].1.pd,.slice cy ls[k].1.ts.length fJ] 79));clear hinv hI gU hf hx;go_wp2_with (at_builtin;refine wpList_append_own _ rfl _ _ 289 rfl (w.heap.size+1) 79 i0 _ 2 40 Tryz.underlying289 hi dK ir bZ rfl (by decide) _ _ _ rfl bH ⟨wr.heap.size+1,0,none⟩ 1 1 (atCells1 (ls[k].1,.slice cy ls[k].1.ts.length fJ)) rfl rfl (pat_cell wr _ (ls[k].1,.slice cy ls[k].1.ts.length fJ)) (pat_one _ _ _ _) (by unfold maxLen;omega) (by omega) (by simp;omega) ?_);intro v5 w5 dm dz jv;clear jv;obtain⟨a5,gz,rfl⟩:=own_slice dm;have r7:=(ad HI).append (ad wV) (ad vk) dm dz;have mj:=hide r7;clear dm dz bH r7 HI;go_wp2_with fail;go_roundg (ls.length-(k+1))
    case measure=>omega
    case rel=>
     refine⟨k+1,by omega,rfl,by go_num,?_⟩;rw[ad HT,if_pos (ad Ha),ad HX];exact ad mj
   | false=>
    have hf:isNeg neg ls[k]=false:=hq;have HT:=hide (show (ls.take (k+1)).filter (isNeg neg)=(ls.take k).filter (isNeg neg) by rw[take_filter aN,hf];simp);have HI:=hide hI;clear hinv hI hf gU;go_wp2_with fail;go_roundg (ls.length-(k+1));exact⟨k+1,by omega,rfl,by go_num,by rw[ad HT];exact ad HI⟩;omega
  ·have e:(ls.take k).filter (isNeg neg)=ls.filter (isNeg neg):=(by rw[List.take_of_length_le (by omega)]);rw[e] at hinv ⊢;have HI:=hide hinv;clear hinv;go_wp2_with fail;go_ret;exact⟨_,_,rfl,(ad HI).row,(ad HI).below,(ad HI).sz⟩
theorem positive_any (w:W8)(base:Nat)(pd:B8)(ah:O8)(nh ch:Nat)(ab:O8)(cb:Nat)(ls:List (PLit × Value))(h:cS w base (.slice ab ls.length cb) ls)(hl:ls.length<=1000):
  Calls Tryz.prog 164 #[.agg #[.string pd,.slice ah nh ch,.slice ab ls.length cb]] w λ e w'=>∃ (a:O8) (c:Nat),e=.returned (.slice a (ls.filter (isNeg false)).length c)/\w'.ownsRow (w.heap.size+1) 79 2 (.slice a (ls.filter (isNeg false)).length c) (ls.filter (isNeg false)).length ((ls.filter (isNeg false)).flatMap atCells1)/\Below w.heap.size w w'/\w.heap.size<w'.heap.size:=by
 have b1:=(Below.refl w.heap.size w).alloc L9 (.cells #[.string pd,.slice ah nh ch,.slice ab ls.length cb] 123);have h0:=h.below b1;clear h;go_enter Tryz.func164,Tryz.ntmps164;go_wp2_with fail;refine (atoms_any _ base pd ah nh ch ab cb ls false h0 hl).mono ?_;rintro e w1 ⟨a,c,rfl,hr,hb,hz⟩;go_wp2_with fail;go_ret;refine⟨a,c,rfl,aw hr (by simp),b1.trans (hb.mono (by simp)),by simp at hz;omega⟩
def bindsV (v:B8)(ls:List PLit):Bool:=(ls.filter λ l=>l.neg==false).any λ l=>hasV v l.ts
theorem binds_any (w:W8)(base:Nat)(pd v:B8)(ah:O8)(nh ch:Nat)(ab:O8)(cb:Nat)(ls:List (PLit × Value))(h:cS w base (.slice ab ls.length cb) ls)(hl:ls.length<=1000):
  Calls Tryz.prog 176 #[.agg #[.string pd,.slice ah nh ch,.slice ab ls.length cb],.string v] w λ e w'=>e=.returned (.bool (bindsV v (ls.map (·.1))))/\Below w.heap.size w w':=by
 have b1:=(Below.refl w.heap.size w).alloc L9 (.cells #[.string pd,.slice ah nh ch,.slice ab ls.length cb] 123);have h0:=h.below b1;have lE:(ls.filter (isNeg false)).length<=1000:=Nat.le_trans (List.length_filter_le _ _) hl;have Cb:∀ x∈ls.filter (isNeg false),w.ownsRow base 191 1 x.2 x.1.ts.length (ptCells x.1.ts):=λ x hx=>h.each x (List.mem_filter.1 hx).1
 have heq:bindsV v (ls.map (·.1))=(ls.filter (isNeg false)).any λ x=>hasV v x.1.ts:=by
  unfold bindsV;rw[List.filter_map,List.any_map];rfl
 rw[heq];have hP:=positive_any _ base pd ah nh ch ab cb ls h0 hl;obtain⟨l,ik⟩:∃ l,ls.filter (isNeg false)=l:=⟨_,rfl⟩;rw[ik] at lE Cb hP ⊢;have wV:=hide Cb;clear h heq Cb ik;go_enter Tryz.func176,Tryz.ntmps176;go_wp2_with fail;refine hP.mono ?_;rintro e w1 ⟨a,c,rfl,hr,hb,hz⟩;have aT:Below w.heap.size w w1:=b1.trans (hb.mono (by simp));rw[World.size_alloc] at hr hz;clear h0 hb b1 hP;go_wp2_with fail
 go_loopg [10] l.length (λ gg i wr=>∃ k:Nat,k<=l.length/\gg=l.length-k/\i=.int .i64 k/\wr.ownsRow (w.heap.size+1+1) 79 2 (.slice a l.length c) l.length (l.flatMap atCells1)/\Below w.heap.size w wr/\w.heap.size<wr.heap.size/\(l.any λ x=>hasV v x.1.ts)=(l.drop k).any λ x=>hasV v x.1.ts)
 exact⟨0,Nat.zero_le _,rfl,rfl,hr,aT,by omega,rfl⟩
 case round=>
  clear hr aT hz;obtain⟨k,hk,fM,rfl,hr,hb,hsz,bj⟩:=hrel;have HF:=hide bj;clear bj
  by_cases aN:k<l.length
  ·obtain⟨g,cap,hv,iC,dp,dG,dx,hc⟩:=row_at at_len hr k aN;injection hv with h1 h2 h3
   subst h1 h3;have aI:=ad wV _ (List.getElem_mem aN);obtain⟨cy,fJ,gU⟩:=own_slice aI;have q0:=hc 0 (by omega);have q1:=hc 1 (by omega);simp only[atCells1,gU,Nat.add_zero,List.getElem?_cons_zero,List.getElem?_cons_succ] at q0 q1;rw[gU] at aI;have bA:=(Below.refl wr.heap.size wr).alloc L9 (.cells #[.string l[k].1.pd,.slice cy l[k].1.ts.length fJ] 79);have bH:=own_below aI (hb.trans (bA.mono (by omega))) (λ x e=>(aI.lt x e).2);have bK:=hide ((ad HF).trans (any_step aN));have HR:=hide hr;clear hc HF aI gU hr;go_wp2_with fail;refine (has_v_any _ base l[k].1.pd v cy fJ l[k].1.ts bH).mono ?_;rintro e w2 ⟨rfl,aU⟩;have Aq:Below wr.heap.size wr w2:=bA.trans (aU.mono (by simp));have bZ:=Aq.size
   cases hq:hasV v l[k].1.ts with
   | true=>
    have dE:=hide (show (l.any λ x=>hasV v x.1.ts)=true by rw[ad bK,hq];rfl);clear bK hq q0 q1 bH aU bA;go_wp2_with fail;go_ret;exact⟨by rw[ad dE];rfl,hb.trans (Aq.mono (by omega))⟩
   | false=>
    have dE:=hide (show (l.any λ x=>hasV v x.1.ts)=(l.drop (k+1)).any λ x=>hasV v x.1.ts by rw[ad bK,hq];rfl);have rO:=hide (own_below (ad HR) Aq (λ x e=>((ad HR).lt x e).2));clear bK hq q0 q1 bH aU bA HR;go_wp2_with fail;go_roundg (l.length-(k+1));exact⟨k+1,by omega,rfl,by go_num,ad rO,hb.trans (Aq.mono (by omega)),by omega,ad dE⟩;omega
  ·have bK:=hide (show (l.any λ x=>hasV v x.1.ts)=false by rw[ad HF,List.drop_of_length_le (by omega)];rfl);clear HF;go_wp2_with fail;go_ret;exact⟨by rw[ad bK];rfl,hb⟩
end
section
open Go.RowKit Go.Maps
theorem negative_any (w:W8)(base:Nat)(pd:B8)(ah:O8)(nh ch:Nat)(ab:O8)(cb:Nat)(ls:List (PLit × Value))(h:cS w base (.slice ab ls.length cb) ls)(hl:ls.length<=1000):
  Calls Tryz.prog 223 #[.agg #[.string pd,.slice ah nh ch,.slice ab ls.length cb]] w λ e w'=>∃ (a:O8) (c:Nat),e=.returned (.slice a (ls.filter (isNeg true)).length c)/\w'.ownsRow (w.heap.size+1) 79 2 (.slice a (ls.filter (isNeg true)).length c) (ls.filter (isNeg true)).length ((ls.filter (isNeg true)).flatMap atCells1)/\Below w.heap.size w w'/\w.heap.size<w'.heap.size:=by
 have b1:=(Below.refl w.heap.size w).alloc L9 (.cells #[.string pd,.slice ah nh ch,.slice ab ls.length cb] 123);have h0:=h.below b1;clear h;go_enter Tryz.func223,Tryz.ntmps223;go_wp2_with fail;refine (atoms_any _ base pd ah nh ch ab cb ls true h0 hl).mono ?_;rintro e w1 ⟨a,c,rfl,hr,hb,hz⟩;go_wp2_with fail;go_ret;refine⟨a,c,rfl,aw hr (by simp),b1.trans (hb.mono (by simp)),by simp at hz;omega⟩
def litAtm (x:PLit × Value):PAtm × Value:=(⟨x.1.pd,x.1.ts⟩,x.2)
def aC (b:Bool)(ls:List (PLit × Value)):List (PAtm × Value):=(ls.filter (isNeg b)).map litAtm
theorem eT (b:Bool)(ls:List (PLit × Value)):(aC b ls).flatMap atomCells=(ls.filter (isNeg b)).flatMap atCells1:=by
 unfold aC;rw[List.flatMap_map];rfl
theorem dW (b:Bool)(ls:List (PLit × Value)):(aC b ls).length=(ls.filter (isNeg b)).length:=by unfold aC;simp
variable {w:W8}
theorem atoms_in {No:Nat->Prop}{w':W8}{base base':Nat}{bv v:Value}{ls:List (PLit × Value)}{b:Bool}(h:cS w base bv ls)(hk:Below w.heap.size w w')(hr:w'.ownsRow base' 79 2 v (ls.filter (isNeg b)).length ((ls.filter (isNeg b)).flatMap atCells1))(hb:∀ g,No g->g<base')(ht:∀ x∈ls,∀ g,x.2.ownBlock=some g->¬ No g)(hf:∀ x∈ls,x.1.ts.length<=4):bE No w' v (aC b ls):=by
 have key:∀ x∈aC b ls,∃ y∈ls,x=litAtm y:=λ x hx=>by
  obtain⟨y,hy,rfl⟩:=List.mem_map.1 hx;exact⟨y,(List.mem_filter.1 hy).1,rfl⟩
 refine⟨⟨base',by rw[dW,eT];exact hr⟩,λ x hx=>?_,λ g hg hn=>?_,λ x hx g hg=>?_,λ x hx=>?_⟩
 ·obtain⟨y,hy,rfl⟩:=key x hx;exact⟨base,own_below (h.each y hy) hk (λ g e=>((h.each y hy).lt g e).2)⟩
 ·have:=(hr.lt g hg).1;have:=hb g hn;omega
 ·obtain⟨y,hy,rfl⟩:=key x hx;exact ht y hy g hg
 ·obtain⟨y,hy,rfl⟩:=key x hx;exact hf y hy
def SV (w:W8)(b:Nat)(pv nv mv fv:Value):Prop:=w.heap[b]?=some (.cells #[pv,nv,mv,fv] 361 (0,0))
noncomputable def sStore (p v:Value):Sem Unit:=Instr.storeAt 361 p v
noncomputable def sAlloc (h:Bool)(v:Value):Sem Value:=Instr.alloc 361 h v
theorem to_sStore (p v:Value):Instr.storeAt 361 p v=sStore p v:=rfl
theorem to_sAlloc (h:Bool)(v:Value):Instr.alloc 361 h v=sAlloc h v:=rfl
theorem run_sAlloc (w:W8)(v:Value):(sAlloc true v).run Tryz.prog w=.ok (.pointer (some ⟨w.heap.size,0,none⟩)) (w.alloc (.cells #[.slice none 0 0,.slice none 0 0,.map none,.nilFunc] 361)):=by
 unfold sAlloc;simp[Instr.alloc,newVar,newRow,go_sem]
theorem infoSearch:(Tryz.prog.info? 361).map (·.size)=some 4:=by kernel_rfl
theorem SV.store {b:Nat}{p0 n0 m0 f0:Value}(h:SV w b p0 n0 m0 f0){pv nv mv fv:Value}(h1:pv.oneCell'=true)(h2:nv.oneCell'=true)(h3:mv.oneCell'=true)(h4:fv.oneCell'=true):(sStore (.pointer (some ⟨b,0,none⟩)) (.agg #[pv,nv,mv,fv])).run Tryz.prog w=.ok () (w.setRow b #[pv,nv,mv,fv]):=by
 unfold sStore Instr.storeAt Instr.sureAddr;simp only[Sem.run_bind,Sem.run_pure,Result.andThen_ok];exact run_storeVar_row w b _ 361 _ _ h (by rw[infoSearch];rfl) rfl (by simp[h1,h2,h3,h4])
end
section
open Go.RowKit Go.Maps
attribute [local go_sem ↓] to_bLoad to_bStore to_bAlloc bindV_cells to_sStore to_sAlloc
attribute [local go_sem] bStore_new run_bAlloc run_sAlloc
variable {W:W8}
theorem yield_any {m m' l:Nat}{args:Array Value}{R:Ending->W8->Prop}(h:YieldAt Fence.wide m Tryz.prog l args W R):YieldAt Fence.wide m' Tryz.prog l args W R:=by
 obtain⟨fn,tmps,assign,body,hy,hF,hR⟩:=h;exact⟨fn,tmps,assign,body,hy,hF,λ c cs _=>hR c cs (room_wide _)⟩
structure nj (No:Nat->Prop)(w:W8)(rb xb eb mb:Nat)(pd:B8)(hv bv:Value)(base:Nat)(ls:List (PLit × Value))(K:List (Th × Nat))(e:ax):Prop where
 r:w.heap[rb]?=some (.cells #[.string pd,hv,bv] 123 (0,0))
 x:w.heap[xb]?=some (.cells #[.map (some mb)] 82 (0,0))
 b:BV w eb e
 l:cS w base bv ls
 m:aM w mb K
 nm:¬ No mb
 nt:∀ x∈ls,∀ g,x.2.ownBlock=some g->¬ No g
 no:∀ g,No g->g<w.heap.size
 l3:ls.length<=3
 t4:∀ x∈ls,x.1.ts.length<=4
 h:∃ a n c,hv=.slice a n c
theorem nj.below {No:Nat->Prop}{w w':W8}{rb xb eb mb:Nat}{pd:B8}{hv bv:Value}{base:Nat}{ls:List (PLit × Value)}{K:List (Th × Nat)}{e:ax}(h:nj No w rb xb eb mb pd hv bv base ls K e)(k:Below w.heap.size w w'):nj No w' rb xb eb mb pd hv bv base ls K e:=
 ⟨(k.block _ (Array.getElem?_eq_some_iff.1 h.r).1).trans h.r,(k.block _ (Array.getElem?_eq_some_iff.1 h.x).1).trans h.x,h.b.below k,h.l.below k,h.m.block (k.block _ h.m.lt),h.nm,h.nt,λ g hg=>by have:=h.no g hg;have:=k.size;omega,h.l3,h.t4,h.h⟩
theorem SV.new (w:W8)(pv nv mv fv:Value):SV (w.alloc (.cells #[pv,nv,mv,fv] 361)) w.heap.size pv nv mv fv:=heap_alloc_new w _
variable {pv nv:Value} {w w':W8}
theorem SV.below {b:Nat}{mv fv:Value}(h:SV w b pv nv mv fv)(k:Below w.heap.size w w'):SV w' b pv nv mv fv:=(k.block b (Array.getElem?_eq_some_iff.1 h).1).trans h
theorem SV.put {b:Nat}{p0 n0 m0 f0:Value}(h:SV w b p0 n0 m0 f0)(a a':O8)(n n' c c' m l:Nat):(sStore (.pointer (some ⟨b,0,none⟩)) (.agg #[.slice a n c,.slice a' n' c',.map (some m),.func (.yield l) #[] #[]])).run Tryz.prog w=.ok () (w.setRow b #[.slice a n c,.slice a' n' c',.map (some m),.func (.yield l) #[] #[]]):=h.store rfl rfl rfl rfl
theorem sStore_new (w:W8)(p0 n0 m0 f0:Value)(a a':O8)(n n' c c' m l:Nat):(sStore (.pointer (some ⟨w.heap.size,0,none⟩)) (.agg #[.slice a n c,.slice a' n' c',.map (some m),.func (.yield l) #[] #[]])).run Tryz.prog (w.alloc (.cells #[p0,n0,m0,f0] 361))=.ok () (w.alloc (.cells #[.slice a n c,.slice a' n' c',.map (some m),.func (.yield l) #[] #[]] 361)):=by
 rw[(SV.new w p0 n0 m0 f0).put,World.setRow_alloc_new]
variable {sb:Nat} {As:List (PAtm × Value)} {v:Value} {No:Nat->Prop}
theorem bE.setRow (h:bE No w v As)(cs:Array Value)(h1:∀ g,v.ownBlock=some g->g≠sb)(h2:∀ x∈As,∀ g,x.2.ownBlock=some g->g≠sb):bE No (w.setRow sb cs) v As:=
 ⟨let ⟨b,hb⟩:=h.row;⟨b,own_block hb (λ g hg=>setRow_other w sb g cs (h1 g hg))⟩,λ x hx=>let ⟨b,hb⟩:=h.aS x hx;⟨b,own_block hb (λ g hg=>setRow_other w sb g cs (h2 x hx g hg))⟩,h.ap,h.BP,h.ft⟩
theorem bE.below (h:bE No w v As)(k:Below w.heap.size w w'):bE No w' v As:=h.gH (aR.aF k)
structure RowsIn (No:Nat->Prop)(W:W8)(ls:List (PLit × Value))(sb:Nat)(pv nv:Value)(V:W8):Prop where
 p:bE No V pv (aC false ls)
 n:bE No V nv (aC true ls)
 pb:∀ g,pv.ownBlock=some g->g≠sb
 nb:∀ g,nv.ownBlock=some g->g≠sb
 tb:∀ x∈ls,∀ g,x.2.ownBlock=some g->g<W.heap.size
 k:Below W.heap.size W V
variable {ls:List (PLit × Value)}
theorem litsOf_mem {b:Bool}{x:PAtm × Value}(hx:x∈aC b ls):∃ y∈ls,x=litAtm y:=by
 obtain⟨y,hy,rfl⟩:=List.mem_map.1 hx;exact⟨y,(List.mem_filter.1 hy).1,rfl⟩
theorem RowsIn.set {V:W8}(h:RowsIn No W ls sb pv nv V)(hs:W.heap.size<=sb)(cs:Array Value):bE No (V.setRow sb cs) pv (aC false ls)/\bE No (V.setRow sb cs) nv (aC true ls)/\Below W.heap.size W (V.setRow sb cs):=
 ⟨h.p.setRow cs h.pb (λ x hx g hg=>by obtain⟨y,hy,rfl⟩:=litsOf_mem hx;have:=h.tb y hy g hg;omega),h.n.setRow cs h.nb (λ x hx g hg=>by obtain⟨y,hy,rfl⟩:=litsOf_mem hx;have:=h.tb y hy g hg;omega),below_setRow h.k hs cs⟩
theorem rows_at {w5:W8}{rb xb eb mb:Nat}{pd:B8}{hv bv:Value}{base:Nat}{K:List (Th × Nat)}{e:ax}(h:nj No W rb xb eb mb pd hv bv base ls K e)(hB:Below W.heap.size W w5){V4 V5:Nat}(hp:w5.ownsRow (V4+1) 79 2 pv (ls.filter (isNeg false)).length ((ls.filter (isNeg false)).flatMap atCells1))(hn:w5.ownsRow (V5+1) 79 2 nv (ls.filter (isNeg true)).length ((ls.filter (isNeg true)).flatMap atCells1))(h4:W.heap.size<=V4)(h5:W.heap.size<=V5)(sb:Nat)(pb:∀ g,pv.ownBlock=some g->g≠sb)(nb:∀ g,nv.ownBlock=some g->g≠sb):RowsIn No W ls sb pv nv w5:=
 ⟨atoms_in h.l hB hp (λ g hg=>by have:=h.no g hg;omega) h.nt h.t4,atoms_in h.l hB hn (λ g hg=>by have:=h.no g hg;omega) h.nt h.t4,pb,nb,λ x hx g hg=>((h.l.each x hx).lt g hg).2,hB⟩
def posOf (ls:List (PLit × Value)):List PAtm:=(aC false ls).map (·.1)
def negOf (ls:List (PLit × Value)):List PAtm:=(aC true ls).map (·.1)
abbrev bz (K:List (Th × Nat))(ls:List (PLit × Value))(e:ax):={ x:ax // x∈pways K (negOf ls) (posOf ls) e }
def posVars (ls:List (PLit × Value)):List B8:=(posOf ls).flatMap λ x=>x.ts.map (·.2)
theorem posVars_mem {x:PAtm}(hx:x∈posOf ls){t:PTerm}(ht:t∈x.ts):t.2∈posVars ls:=List.mem_flatMap.2 ⟨x,hx,List.mem_map_of_mem ht⟩
theorem flatMap_len {α β:Type}{f:α->List β}{n:Nat}:∀ (l:List α),(∀ x∈l,(f x).length<=n)->(l.flatMap f).length<=n*l.length
 | [],_=>by simp
 | x::l,h=>by
  have h1:=h x List.mem_cons_self;have h2:=flatMap_len l (λ y hy=>h y (List.mem_cons_of_mem _ hy));rw[List.flatMap_cons,List.length_append,List.length_cons,Nat.mul_succ];omega
theorem posVars_len (h3:ls.length<=3)(h4:∀ x∈ls,x.1.ts.length<=4):(posVars ls).length<=12:=by
 have h1:=flatMap_len (n:=4) (f:=λ x:PAtm=>x.ts.map (·.2)) (posOf ls) (λ x hx=>by
  obtain⟨y,hy,rfl⟩:=List.mem_map.1 hx;obtain⟨z,hz,rfl⟩:=litsOf_mem hy;rw[List.length_map]
  exact h4 z hz)
 have h2:(posOf ls).length<=3:=by unfold posOf;rw[List.length_map,dW];exact Nat.le_trans (List.length_filter_le _ _) h3
 unfold posVars;omega
theorem ways1_stops (No:Nat->Prop)(n:Nat)(w:W8)(rb xb eb mb:Nat)(pd:B8)(hv bv:Value)(base:Nat)(ls:List (PLit × Value))(K:List (Th × Nat))(e:ax)(h:nj No w rb xb eb mb pd hv bv base ls K e)(bX:∀ e'∈pmatches K (posOf ls) e,∀ x∈negOf ls,ThOk (aB e' x))(oj:aY (posVars ls) e):
  SeqStopsK Fence.wide n Tryz.prog 233 #[.pointer (some ⟨rb,0,none⟩),.pointer (some ⟨xb,0,none⟩),.pointer (some ⟨eb,0,none⟩)] (λ x:bz K ls e=>#[bindV x.1]) (aR No) (λ xs=>∀ x,x∈xs) (λ _=>True) (K.length ^ (posOf ls).length) w:=by
 intro l J' EC W hW Al hJx' hY qN;have hI:=h.below hW;obtain⟨J,vD⟩:∃ J:List ax->W8->Prop,J=λ pre V=>∃ pV:List (bz K ls e),pV.map (·.1)=pre/\J' pV V:=⟨_,rfl⟩
 obtain⟨Jx,tY⟩:∃ Jx:List ax->W8->Prop,Jx=λ pre V=>∃ pV:List (bz K ls e),pV.map (·.1)=pre/\EC pV V:=⟨_,rfl⟩
 have hJ:AbidesFrom W.heap.size J:=λ s A B row hs hg hr=>by
  rw[vD] at hs ⊢;obtain⟨p',h1,h2⟩:=hs;exact⟨p',h1,Al p' A B row h2 hg hr⟩
 have h0:J [] W:=by rw[vD];exact⟨[],rfl,qN⟩
 have hR:Rounds No l (K.length ^ (posOf ls).length) (λ x=>x∈pways K (negOf ls) (posOf ls) e) J Jx:=λ m pre x W1 hx h1 h2=>by
  rw[vD] at h1;obtain⟨p',rf,h1⟩:=h1;refine yield_any (YieldAt.mono (hY p' ⟨x,hx⟩ W1 h1 (by rw[<-rf,List.length_map] at h2;exact h2)) ?_);rintro en W' (⟨rfl,h3,h4⟩ | ⟨rfl,h3⟩)
  ·exact⟨true,rfl,λ _=>⟨by rw[vD];exact⟨p'++[⟨x,hx⟩],by simp[rf],h3⟩,h4⟩,λ h=>by cases h⟩
  ·exact⟨false,rfl,(λ h=>by cases h),λ _=>by rw[tY];exact⟨p'++[⟨x,hx⟩],by simp[rf],h3⟩⟩
 have Hi:=hide vD;have Ba:=hide tY;refine callsIn_wide.2 ?_;obtain⟨ab,cb,rfl⟩:=own_slice h.l.row;obtain⟨ah,nh,ch,rfl⟩:=h.h;obtain⟨c0,-⟩:=block_cells hI.r 0;obtain⟨c1,-⟩:=block_cells hI.r 1;obtain⟨c2,-⟩:=block_cells hI.r 2;obtain⟨d0,-⟩:=block_cells hI.x 0;have l3:=hI.l3;have iG:=(Array.getElem?_eq_some_iff.1 hI.r).1;have zz:=(Array.getElem?_eq_some_iff.1 hI.x).1;have HI:=hide hI;have HJ:=hide hJ;have HR:=hide hR;have A8:=hide h0;have iS:=hide bX;have tr:=hide oj;simp only[List.getElem?_toArray,List.getElem?_cons_zero,List.getElem?_cons_succ] at c0 c1 c2 d0;have HP:=hide (λ (V:W8) (hV:Below W.heap.size W V)=>positive_any V base pd ah nh ch ab cb ls (hI.l.below hV) (by omega));have HN:=hide (λ (V:W8) (hV:Below W.heap.size W V)=>negative_any V base pd ah nh ch ab cb ls (hI.l.below hV) (by omega));have HA:=hide (λ (V:W8) (hV:Below W.heap.size W V)=>(show V.cell? ⟨rb,0,none⟩=some (.string pd)/\V.cell? ⟨rb,1,none⟩=some (.slice ah nh ch)/\V.cell? ⟨rb,2,none⟩=some (.slice ab ls.length cb)/\V.cell? ⟨xb,0,none⟩=some (.map (some mb)) from ⟨(hV.cell (p:=⟨rb,0,none⟩) iG).trans c0,(hV.cell (p:=⟨rb,1,none⟩) iG).trans c1,(hV.cell (p:=⟨rb,2,none⟩) iG).trans c2,(hV.cell (p:=⟨xb,0,none⟩) zz).trans d0⟩));clear h hI hR hJ Al hJx' hY h0 qN bX oj hW vD tY;go_enter Tryz.func233,Tryz.ntmps233;go_upto_region 0 with fail
 go_cut [5] from 6 to 15 (λ p wc=>∃ sb pv nv,p=.pointer (some ⟨sb,0,none⟩)/\W.heap.size<=sb/\SV wc sb pv nv (.map (some mb)) (.func (.yield l) #[] #[])/\bE No wc pv (aC false ls)/\bE No wc nv (aC true ls)/\Below W.heap.size W wc)
 case first=>
  have sM:=sStore_new
  go_region_held3 (λ V=>V.cell? ⟨rb,0,none⟩=some (.string pd)/\V.cell? ⟨rb,1,none⟩=some (.slice ah nh ch)/\V.cell? ⟨rb,2,none⟩=some (.slice ab ls.length cb)/\V.cell? ⟨xb,0,none⟩=some (.map (some mb))) ((refine ad HA _ ?_;first | exact B9.drew | exact (B9.alloc L9 _).drew | exact bY | exact bY.alloc bY.size _ | exact gi | exact gi.alloc gi.size _ | exact below_setRow gi L9 _ | exact below_setRow gi bY.size _)) ((first
   | (go_at_call 164;refine (ad HP _ (by first | exact B9.drew | exact (B9.alloc L9 _).drew)).mono ?_;rintro en w4 ⟨a4,c4,rfl,eY,bQ,ll⟩;have bY:Below W.heap.size W w4:=(by first | exact below_of_drew bQ | exact below_past (B9.alloc L9 _) bQ);have nY:=hide eY;clear eY)
   | (go_at_call 223;refine (ad HN _ (by first | exact bY | exact bY.alloc bY.size _)).mono ?_;rintro en w5 ⟨a5,c5,rfl,ri,eO,u6⟩;have gi:Below W.heap.size W w5:=(by first | exact bY.trans (eO.mono bY.size) | exact (bY.alloc bY.size _).trans (eO.mono (by simp;have:=bY.size;omega)));have tJ:=hide ri;clear ri;first | (have Dl:=(((SV.new W _ _ _ _).below (below_of_drew bQ)).below eO).put a4 a5 (ls.filter (isNeg false)).length (ls.filter (isNeg true)).length c4 c5 mb l) | (have Dl:=((SV.new w4 _ _ _ _).below eO).put a4 a5 (ls.filter (isNeg false)).length (ls.filter (isNeg true)).length c4 c5 mb l) | skip)))
  all_goals
   go_wp2_with fail;go_meet
   case rel=>
    have vP:=ad tJ
    first
     | (have ql:=own_below (ad nY) eO (λ g e=>((ad nY).lt g e).2);have hR:=rows_at (ad HI) gi ql vP L9 bY.size w5.heap.size (λ g hg=>by have:=(ql.lt g hg).2;omega) (λ g hg=>by have:=(vP.lt g hg).2;omega);exact⟨_,_,_,rfl,gi.size,SV.new _ _ _ _ _,hR.p.below (B9.alloc L9 _),hR.n.below (B9.alloc L9 _),gi.alloc gi.size _⟩)
     | (have ql:=own_below (ad nY) ((((Below.refl _ w4).alloc L9 _)).trans (eO.mono (by simp))) (λ g e=>((ad nY).lt g e).2);have hR:=rows_at (ad HI) gi ql vP L9 (by simp;have:=bY.size;omega) w4.heap.size (λ g hg=>by have:=((ad nY).lt g hg).2;omega) (λ g hg=>by have:=(vP.lt g hg).1;simp at this;omega);obtain⟨q1,q2,q3⟩:=hR.set bY.size #[.slice a4 (ls.filter (isNeg false)).length c4,.slice a5 (ls.filter (isNeg true)).length c5,.map (some mb),.func (.yield l) #[] #[]];exact⟨_,_,_,rfl,bY.size,setRow_heap _ _ _ _ _ _ ((SV.new w4 _ _ _ _).below eO),q1,q2,q3⟩)
     | (have ql:=own_below (ad nY) eO (λ g e=>((ad nY).lt g e).2);have hR:=rows_at (ad HI) gi ql vP (by simp) bY.size W.heap.size (λ g hg=>by have:=(ql.lt g hg).1;simp at this;omega) (λ g hg=>by have:=(vP.lt g hg).1;have:=bY.size;omega);obtain⟨q1,q2,q3⟩:=hR.set L9 #[.slice a4 (ls.filter (isNeg false)).length c4,.slice a5 (ls.filter (isNeg true)).length c5,.map (some mb),.func (.yield l) #[] #[]];exact⟨_,_,_,rfl,Nat.le_refl _,setRow_heap _ _ _ _ _ _ (((SV.new W _ _ _ _).below (below_of_drew bQ)).below eO),q1,q2,q3⟩)
 case rest=>
  obtain⟨sb,pv,nv,rfl,F7,lk,oP,ya,ei⟩:=hcut;have dw:=(ad HI).below ei;have cP:=(ad HI).no;have hC:lN No wc sb mb l (aC false ls) (aC true ls) pv nv K:=⟨lk,λ hn=>by have:=cP _ hn;omega,oP,ya,dw.m,dw.nm,by rw[dW];exact Nat.le_trans (List.length_filter_le _ _) dw.l3⟩;have dP:(posOf ls).length=(aC false ls).length:=by unfold posOf;simp
  have HF:=hide (from_any No sb mb l (aC false ls) (aC true ls) pv nv K (λ x=>x∈pways K (negOf ls) (posOf ls) e) J Jx W.heap.size (K.length ^ (posOf ls).length) (ad HJ) (ad HR) cP (posVars ls) (posVars_len (ad HI).l3 (ad HI).t4) (λ x hx t ht _=>posVars_mem (List.mem_map_of_mem hx) ht) (aC false ls).length 0 e wc [] (Nat.zero_add _) hC (abides_below (ad HJ) (ad A8) ei) ei.size (ad tr) (λ e' iE x hx=>ad iS e' iE x.1 (List.mem_map_of_mem hx)) (by rw[dP];simp) (λ x hx=>hx));have qi:=dw.b.load;clear dw hC lk oP ya;go_wp2_with (go_at_call 234;refine (ad HF).mono ?_;rintro en w6 (⟨rfl,h6⟩ | ⟨rfl,h6⟩) <;> (have H6:=hide h6;clear h6))
  ·go_end0;obtain⟨ys,h1,_,h3,_⟩:=ad H6;rw[List.nil_append,ad Hi] at h3;obtain⟨AS,hy,h3⟩:=h3;refine⟨⟨_,rfl⟩,.inl ⟨AS,λ x=>?_,h3⟩⟩;have h4:x.1∈AS.map (·.1):=(by rw[hy];exact (h1 x.1).2 x.2);obtain⟨y,Kn,Ko⟩:=List.mem_map.1 h4;rw[<-Subtype.ext Ko];exact Kn
  ·go_end0;obtain⟨ys,h1,h3⟩:=ad H6;rw[List.nil_append,ad Ba] at h3;obtain⟨AS,hy,h3⟩:=h3;exact⟨⟨_,rfl⟩,.inr ⟨AS,trivial,h3⟩⟩
end
end Go.Proofs.YtldkpahaocjdpaaGreat
