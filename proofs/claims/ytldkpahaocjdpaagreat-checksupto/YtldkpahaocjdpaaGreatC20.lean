/-
  The program's has, atoms, Positive, Binds: whether a variable stands in a positive literal.
-/
import Derived.Test.YtldkpahaocjdpaaGreatC19
import Derived.Laws.EntriesVeiled
set_option maxHeartbeats 16000000
set_option maxRecDepth 1000000
namespace Go.Proofs.YtldkpahaocjdpaaGreat
section
open Go.RowKit
theorem zgu (W:W8)(v:Value):(Instr.typeAssert (.iface 130 v) 191 130 true).run Tryz.prog W=.ok (.tuple #[v,.bool true]) W:=by kernel_rfl
theorem zif (W:W8)(v:Value):(Instr.typeAssert (.iface 193 v) 191 130 true).run Tryz.prog W=.ok (.tuple #[.string { data:=#[] },.bool false]) W:=by kernel_rfl
theorem zfe (W:W8)(v:Value):(Instr.typeAssert (.iface 193 v) 191 193 true).run Tryz.prog W=.ok (.tuple #[v,.bool true]) W:=by kernel_rfl
def zk4 (v:B8)(ts:List (Bool × B8)):Bool:=ts.any λ t=>t.1&&t.2.toList==v.toList
theorem zp1 {w:W8}{base:Nat}{tv:Value}{ts:List (Bool × B8)}(h:w.ownsRow base 191 1 tv ts.length (vI ts))(k:Nat)(hk:k<ts.length):∃ g cap,tv=.slice (some ⟨g,0,none⟩) ts.length cap/\base<=g/\g<w.heap.size/\ts.length<=cap/\cap<=maxLen/\w.cell? ⟨g,k,none⟩=some (zhh ts[k].1 ts[k].2):=by
 rcases h.2 with⟨_,h0⟩ | ⟨g,cap,cur,rfl,hb,hg,cZ,da,ll,ht⟩
 ·omega
 ·refine⟨g,cap,rfl,hb,(Array.getElem?_eq_some_iff.1 hg).1,cZ,da,?_⟩;rw[h.cellAt k (by omega),vI,List.getElem?_map,List.getElem?_eq_getElem hk];rfl
theorem zzb (w:W8)(base:Nat)(pd v:B8)(a:O8)(c:Nat)(ts:List (Bool × B8))(h:w.ownsRow base 191 1 (.slice a ts.length c) ts.length (vI ts)):
  Calls Tryz.prog 221 #[.agg #[.string pd,.slice a ts.length c],.string v] w λ e w'=>e=.returned (.bool (zk4 v ts))/\Below w.heap.size w w':=by
 have mU:=yN h;unfold maxLen at mU;have sR:Below w.heap.size w (w.alloc (.cells #[.string pd,.slice a ts.length c] 79)):=B9.alloc L9 _;have h0:=zH h sR (λ g e=>(h.lt g e).2);clear h;have Xc:=zgu;have Nn:=zif;have Ee:=zfe;go_enter Tryz.func221,Tryz.ntmps221;go_wp2_with fail
 go_loop [12] (λ i=>∃ k:Nat,k<=ts.length/\i=.int .i64 k/\zk4 v ts=zk4 v (ts.drop k)) (λ i=>ts.length-(intOf i).toNat)
 exact⟨0,Nat.zero_le _,rfl,rfl⟩
 case round=>
  obtain⟨k,hk,rfl,ax⟩:=hrel;have HF:=zC ax;clear ax
  by_cases aE:k<ts.length
  ·obtain⟨g,cap,hv,oN,bR,cZ,da,hc⟩:=zp1 h0 k aE;injection hv with h1 h2 h3
   subst h1 h3;have aP:zk4 v (ts.drop k)=((ts[k].1&&ts[k].2.toList==v.toList)||zk4 v (ts.drop (k+1))):=zi3 aE;have az:=zC ((zA HF).trans aP);clear HF aP
   cases hb:ts[k].1 with
   | true=>
    rw[hb] at hc;unfold zhh at hc;rw[if_pos rfl] at hc
    cases hq:ts[k].2.toList==v.toList with
    | true=>
     have aQ:=zC (show zk4 v ts=true by rw[zA az,hb,hq];rfl);clear az hb;go_wp2_with fail;go_ret;exact⟨by rw[zA aQ];rfl,sR⟩
    | false=>
     have aQ:=zC (show zk4 v ts=zk4 v (ts.drop (k+1)) by rw[zA az,hb,hq];rfl);clear az hb;go_wp2_with fail
     go_round
     case rel=>exact⟨k+1,by omega,by go_num,zA aQ⟩
     case measure=>simp[intOf];omega
   | false=>
    rw[hb] at hc;unfold zhh at hc;rw[if_neg (by decide)] at hc;have aQ:=zC (show zk4 v ts=zk4 v (ts.drop (k+1)) by rw[zA az,hb];rfl);clear az hb;go_wp2_with fail
    go_round
    case rel=>exact⟨k+1,by omega,by go_num,zA aQ⟩
    case measure=>simp[intOf];omega
  ·have az:=zC (show zk4 v ts=false by rw[zA HF,List.drop_of_length_le (by omega)];rfl);clear HF;go_wp2_with fail;go_ret;exact⟨by rw[zA az];rfl,sR⟩
end
section
open Go.RowKit
def vW (x:vJ × Value):V8:=[.string x.1.pd,x.2]
theorem z83 (x:vJ × Value):(vW x).length=2:=rfl
theorem zt7 (x:vJ × Value):(x.1.cells x.2).length=3:=rfl
def vD (b:Bool)(x:vJ × Value):Bool:=x.1.neg==b
variable {ls:List (vJ × Value)} {bv:Value} {base:Nat} {w:W8}
theorem mj.below {w':W8}(h:mj w base bv ls)(hb:Below w.heap.size w w'):mj w' base bv ls:=
 ⟨zH h.row hb (λ g e=>(h.row.lt g e).2),λ x hx=>zH (h.each x hx) hb (λ g e=>((h.each x hx).lt g e).2)⟩
theorem zzf:(Tryz.prog.info? 79).map (λ i=>(i.zero,i.size,i.bytes))=some (some (.agg #[.string { data:=#[] },.slice none 0 0]),2,40):=by kernel_rfl
theorem z4i (w1:W8)(o:Obj)(x:vJ × Value)(j:Nat)(u:Value)(h:(vW x)[j]?=some u):((w1.alloc o).alloc (Obj.cells #[.string x.1.pd,x.2] 79)).cell? ((⟨w1.heap.size+1,0,none⟩:Addr).add j)=some u:=by
 have e:(⟨w1.heap.size+1,0,none⟩:Addr).add j=⟨w1.heap.size+1,j,none⟩:=by unfold Addr.add;split <;> simp_all
 rw[e,World.cell?_alloc_at _ _ _ _ (by simp)];simpa[vW] using h
theorem z71 (L:vJ)(a:O8)(n c:Nat):∀ u∈vW (L,.slice a n c),u.oneCell'=true:=by
 intro u hu;simp[vW] at hu;rcases hu with rfl | rfl <;> rfl
structure FO (w:W8)(base:Nat)(bv:Value)(ls l:List (vJ × Value))(v:Value)(wr:W8):Prop where
 lits:mj wr base bv ls
 row:wr.ownsRow (w.heap.size+1) 79 2 v l.length (l.flatMap vW)
 below:Below w.heap.size w wr
 sz:w.heap.size<wr.heap.size
theorem FO.alloc {w:W8}{base:Nat}{bv:Value}{ls l:List (vJ × Value)}{v:Value}{wr:W8}(h:FO w base bv ls l v wr)(o:Obj):FO w base bv ls l v (wr.alloc o):=
 have hs:=h.sz
 ⟨h.lits.below (B9.alloc L9 _),h.row.alloc o,h.below.alloc (by omega) _,by simp;omega⟩
theorem FO.append {l:List (vJ × Value)}{v v':Value}{wr w5:W8}(h:FO w base bv ls l v wr)(I0:∀ x∈ls,∀ g,x.2.ownBlock=some g->g<w.heap.size)(pc:∀ g,bv.ownBlock=some g->g<w.heap.size){x:vJ × Value}(aC:w5.ownsRow (w.heap.size+1) 79 2 v' (l.length+1) (l.flatMap vW++vW x))(hg:wr.grownBy w5 v.ownBlock):FO w base bv ls (l++[x]) v' w5:=by
 have hs:=h.sz;have hb:∀ g,g<w.heap.size->w5.heap[g]?=wr.heap[g]?:=λ g uz=>hg.block g (by omega) (λ e=>by have:=(h.row.lt g e.symm).1;omega)
 refine⟨⟨xI h.lits.row (λ g e=>hb g (pc g e)),λ y hy=>xI (h.lits.each y hy) (λ g e=>hb g (I0 y hy g e))⟩,?_,h.below.trans ⟨hg.os,hg.tape,hg.output,hg.size,hb⟩,by have:=hg.size;omega⟩;simpa using aC
theorem zks {α:Type}{f:α->Bool}{l:List α}{k:Nat}(h:k<l.length):(l.take (k+1)).filter f=(l.take k).filter f++(if f l[k] then [l[k]] else []):=by
 rw[List.take_succ_eq_append_getElem h,List.filter_append]
 congr 1
 cases hf:f l[k] <;> simp[hf]
theorem zoy (w:W8)(base:Nat)(pd:B8)(ah:O8)(nh ch:Nat)(ab:O8)(cb:Nat)(ls:List (vJ × Value))(neg:Bool)(h:mj w base (.slice ab ls.length cb) ls)(hl:ls.length<=1000):
  Calls Tryz.prog 217 #[.agg #[.string pd,.slice ah nh ch,.slice ab ls.length cb],.bool neg] w λ e w'=>∃ (a:O8) (c:Nat),e=.returned (.slice a (ls.filter (vD neg)).length c)/\w'.ownsRow (w.heap.size+1) 79 2 (.slice a (ls.filter (vD neg)).length c) (ls.filter (vD neg)).length ((ls.filter (vD neg)).flatMap vW)/\Below w.heap.size w w'/\w.heap.size<w'.heap.size:=by
 obtain⟨i0,hi,cQ,cz,cx⟩:=info_parts zzf;have uL:=zC (λ g (e:(Value.slice ab ls.length cb).ownBlock=some g)=>(h.row.lt g e).2);have A8:=zC (λ x (hx:x∈ls) g (e:x.2.ownBlock=some g)=>((h.each x hx).lt g e).2);have b1:=(Below.refl w.heap.size w).alloc L9 (.cells #[.string pd,.slice ah nh ch,.slice ab ls.length cb] 123);have h0:FO w base (.slice ab ls.length cb) ls [] (.slice none 0 0) (w.alloc (.cells #[.string pd,.slice ah nh ch,.slice ab ls.length cb] 123)):=⟨h.below b1,World.ownsRow_nil _ _ _ _,b1,by simp⟩;clear h b1;go_enter Tryz.func217,Tryz.ntmps217;go_wp2_with fail
 go_loopg [5,11] ls.length (λ gg v i wr=>∃ k:Nat,k<=ls.length/\gg=ls.length-k/\i=.int .i64 k/\FO w base (.slice ab ls.length cb) ls ((ls.take k).filter (vD neg)) v wr)
 exact⟨0,Nat.zero_le _,rfl,rfl,h0⟩
 case round=>
  clear h0;obtain⟨k,hk,iZ,rfl,hinv⟩:=hrel;obtain⟨a1,kt,rfl⟩:=zD hinv.row
  by_cases aE:k<ls.length
  ·obtain⟨g,cap,hv,oN,bR,cZ,da,hc⟩:=vU zt7 hinv.lits.row k aE;injection hv with h1 h2 h3
   subst h1 h3;obtain⟨bp,fw,km⟩:=zD (hinv.lits.each _ (List.getElem_mem aE));have q0:=hc 0 (by omega);have q1:=hc 1 (by omega);have q2:=hc 2 (by omega);simp only[vJ.cells,km,Nat.add_zero,List.getElem?_cons_zero,List.getElem?_cons_succ] at q0 q1 q2;have hI:=hinv.alloc (.cells #[.bool ls[k].1.neg,.string ls[k].1.pd,.slice bp ls[k].1.ts.length fw] 183);have lG:((ls.take k).filter (vD neg)).length<=1000:=Nat.le_trans (List.length_filter_le _ _) (by simp;omega);have aT:=hI.sz;rw[World.size_alloc] at aT;clear hc
   cases hq:(ls[k].1.neg==neg) with
   | true=>
    have hf:vD neg ls[k]=true:=hq;have HT:=zC (zks (f:=vD neg) aE);have hx:ls[k]=(ls[k].1,Value.slice bp ls[k].1.ts.length fw):=(by rw[<-km]);have HX:=zC hx;have Vv:=zC hf;have bT:=(hI.alloc (.cells #[.string ls[k].1.pd,.slice bp ls[k].1.ts.length fw] 79)).row;have HI:=zC (hI.alloc (.cells #[.string ls[k].1.pd,.slice bp ls[k].1.ts.length fw] 79));clear hinv hI km hf hx;go_wp2_with (at_builtin;refine wpList_append_own _ rfl _ _ 289 rfl (w.heap.size+1) 79 i0 _ 2 40 Tryz.underlying289 hi cQ cz cx rfl (by decide) _ _ _ rfl bT ⟨wr.heap.size+1,0,none⟩ 1 1 (vW (ls[k].1,.slice bp ls[k].1.ts.length fw)) rfl rfl (z4i wr _ (ls[k].1,.slice bp ls[k].1.ts.length fw)) (z71 _ _ _ _) (by unfold maxLen;omega) (by omega) (by simp;omega) ?_);intro v5 w5 aj aU hne5;clear hne5;obtain⟨a5,ie,rfl⟩:=zD aj;have zl:=(zA HI).append (zA A8) (zA uL) aj aU;have xj:=zC zl;clear aj aU bT zl HI;go_wp2_with fail;go_roundg (ls.length-(k+1))
    case measure=>omega
    case rel=>
     refine⟨k+1,by omega,rfl,by go_num,?_⟩;rw[zA HT,if_pos (zA Vv),zA HX];exact zA xj
   | false=>
    have hf:vD neg ls[k]=false:=hq;have HT:=zC (show (ls.take (k+1)).filter (vD neg)=(ls.take k).filter (vD neg) by rw[zks aE,hf];simp);have HI:=zC hI;clear hinv hI hf km;go_wp2_with fail;go_roundg (ls.length-(k+1));exact⟨k+1,by omega,rfl,by go_num,by rw[zA HT];exact zA HI⟩;omega
  ·have e:(ls.take k).filter (vD neg)=ls.filter (vD neg):=(by rw[List.take_of_length_le (by omega)]);rw[e] at hinv ⊢;have HI:=zC hinv;clear hinv;go_wp2_with fail;go_ret;exact⟨_,_,rfl,(zA HI).row,(zA HI).below,(zA HI).sz⟩
theorem zcs (w:W8)(base:Nat)(pd:B8)(ah:O8)(nh ch:Nat)(ab:O8)(cb:Nat)(ls:List (vJ × Value))(h:mj w base (.slice ab ls.length cb) ls)(hl:ls.length<=1000):
  Calls Tryz.prog 164 #[.agg #[.string pd,.slice ah nh ch,.slice ab ls.length cb]] w λ e w'=>∃ (a:O8) (c:Nat),e=.returned (.slice a (ls.filter (vD false)).length c)/\w'.ownsRow (w.heap.size+1) 79 2 (.slice a (ls.filter (vD false)).length c) (ls.filter (vD false)).length ((ls.filter (vD false)).flatMap vW)/\Below w.heap.size w w'/\w.heap.size<w'.heap.size:=by
 have b1:=(Below.refl w.heap.size w).alloc L9 (.cells #[.string pd,.slice ah nh ch,.slice ab ls.length cb] 123);have h0:=h.below b1;clear h;go_enter Tryz.func164,Tryz.ntmps164;go_wp2_with fail;refine (zoy _ base pd ah nh ch ab cb ls false h0 hl).mono ?_;rintro e w1 ⟨a,c,rfl,hr,hb,hz⟩;go_wp2_with fail;go_ret;refine⟨a,c,rfl,zF hr (by simp),b1.trans (hb.mono (by simp)),by simp at hz;omega⟩
def zig (v:B8)(ls:List vJ):Bool:=(ls.filter λ l=>l.neg==false).any λ l=>zk4 v l.ts
theorem zyj (w:W8)(base:Nat)(pd v:B8)(ah:O8)(nh ch:Nat)(ab:O8)(cb:Nat)(ls:List (vJ × Value))(h:mj w base (.slice ab ls.length cb) ls)(hl:ls.length<=1000):
  Calls Tryz.prog 176 #[.agg #[.string pd,.slice ah nh ch,.slice ab ls.length cb],.string v] w λ e w'=>e=.returned (.bool (zig v (ls.map (·.1))))/\Below w.heap.size w w':=by
 have b1:=(Below.refl w.heap.size w).alloc L9 (.cells #[.string pd,.slice ah nh ch,.slice ab ls.length cb] 123);have h0:=h.below b1;have lG:(ls.filter (vD false)).length<=1000:=Nat.le_trans (List.length_filter_le _ _) hl;have PN:∀ x∈ls.filter (vD false),w.ownsRow base 191 1 x.2 x.1.ts.length (vI x.1.ts):=λ x hx=>h.each x (List.mem_filter.1 hx).1
 have heq:zig v (ls.map (·.1))=(ls.filter (vD false)).any λ x=>zk4 v x.1.ts:=by
  unfold zig;rw[List.filter_map,List.any_map];rfl
 rw[heq];have hP:=zcs _ base pd ah nh ch ab cb ls h0 hl;obtain⟨l,mg⟩:∃ l,ls.filter (vD false)=l:=⟨_,rfl⟩;rw[mg] at lG PN hP ⊢;have A8:=zC PN;clear h heq PN mg;go_enter Tryz.func176,Tryz.ntmps176;go_wp2_with fail;refine hP.mono ?_;rintro e w1 ⟨a,c,rfl,hr,hb,hz⟩;have aM:Below w.heap.size w w1:=b1.trans (hb.mono (by simp));rw[World.size_alloc] at hr hz;clear h0 hb b1 hP;go_wp2_with fail
 go_loopg [10] l.length (λ gg i wr=>∃ k:Nat,k<=l.length/\gg=l.length-k/\i=.int .i64 k/\wr.ownsRow (w.heap.size+1+1) 79 2 (.slice a l.length c) l.length (l.flatMap vW)/\Below w.heap.size w wr/\w.heap.size<wr.heap.size/\(l.any λ x=>zk4 v x.1.ts)=(l.drop k).any λ x=>zk4 v x.1.ts)
 exact⟨0,Nat.zero_le _,rfl,rfl,hr,aM,by omega,rfl⟩
 case round=>
  clear hr aM hz;obtain⟨k,hk,iZ,rfl,hr,hb,aT,ax⟩:=hrel;have HF:=zC ax;clear ax
  by_cases aE:k<l.length
  ·obtain⟨g,cap,hv,oN,bR,cZ,da,hc⟩:=vU z83 hr k aE;injection hv with h1 h2 h3
   subst h1 h3;have aC:=zA A8 _ (List.getElem_mem aE);obtain⟨bp,fw,km⟩:=zD aC;have q0:=hc 0 (by omega);have q1:=hc 1 (by omega);simp only[vW,km,Nat.add_zero,List.getElem?_cons_zero,List.getElem?_cons_succ] at q0 q1;rw[km] at aC;have bA:=(Below.refl wr.heap.size wr).alloc L9 (.cells #[.string l[k].1.pd,.slice bp l[k].1.ts.length fw] 79);have bT:=zH aC (hb.trans (bA.mono (by omega))) (λ x e=>(aC.lt x e).2);have az:=zC ((zA HF).trans (zi3 aE));have HR:=zC hr;clear hc HF aC km hr;go_wp2_with fail;refine (zzb _ base l[k].1.pd v bp fw l[k].1.ts bT).mono ?_;rintro e w2 ⟨rfl,aH⟩;have Gz:Below wr.heap.size wr w2:=bA.trans (aH.mono (by simp));have cx:=Gz.size
   cases hq:zk4 v l[k].1.ts with
   | true=>
    have aQ:=zC (show (l.any λ x=>zk4 v x.1.ts)=true by rw[zA az,hq];rfl);clear az hq q0 q1 bT aH bA;go_wp2_with fail;go_ret;exact⟨by rw[zA aQ];rfl,hb.trans (Gz.mono (by omega))⟩
   | false=>
    have aQ:=zC (show (l.any λ x=>zk4 v x.1.ts)=(l.drop (k+1)).any λ x=>zk4 v x.1.ts by rw[zA az,hq];rfl);have rU:=zC (zH (zA HR) Gz (λ x e=>((zA HR).lt x e).2));clear az hq q0 q1 bT aH bA HR;go_wp2_with fail;go_roundg (l.length-(k+1));exact⟨k+1,by omega,rfl,by go_num,zA rU,hb.trans (Gz.mono (by omega)),by omega,zA aQ⟩;omega
  ·have az:=zC (show (l.any λ x=>zk4 v x.1.ts)=false by rw[zA HF,List.drop_of_length_le (by omega)];rfl);clear HF;go_wp2_with fail;go_ret;exact⟨by rw[zA az];rfl,hb⟩
end
section
open Go.RowKit Go.Maps
theorem zip (w:W8)(base:Nat)(pd:B8)(ah:O8)(nh ch:Nat)(ab:O8)(cb:Nat)(ls:List (vJ × Value))(h:mj w base (.slice ab ls.length cb) ls)(hl:ls.length<=1000):
  Calls Tryz.prog 223 #[.agg #[.string pd,.slice ah nh ch,.slice ab ls.length cb]] w λ e w'=>∃ (a:O8) (c:Nat),e=.returned (.slice a (ls.filter (vD true)).length c)/\w'.ownsRow (w.heap.size+1) 79 2 (.slice a (ls.filter (vD true)).length c) (ls.filter (vD true)).length ((ls.filter (vD true)).flatMap vW)/\Below w.heap.size w w'/\w.heap.size<w'.heap.size:=by
 have b1:=(Below.refl w.heap.size w).alloc L9 (.cells #[.string pd,.slice ah nh ch,.slice ab ls.length cb] 123);have h0:=h.below b1;clear h;go_enter Tryz.func223,Tryz.ntmps223;go_wp2_with fail;refine (zoy _ base pd ah nh ch ab cb ls true h0 hl).mono ?_;rintro e w1 ⟨a,c,rfl,hr,hb,hz⟩;go_wp2_with fail;go_ret;refine⟨a,c,rfl,zF hr (by simp),b1.trans (hb.mono (by simp)),by simp at hz;omega⟩
def zg3 (x:vJ × Value):j6 × Value:=(⟨x.1.pd,x.1.ts⟩,x.2)
def yQ (b:Bool)(ls:List (vJ × Value)):List (j6 × Value):=(ls.filter (vD b)).map zg3
theorem R5 (b:Bool)(ls:List (vJ × Value)):(yQ b ls).flatMap zd8=(ls.filter (vD b)).flatMap vW:=by
 unfold yQ;rw[List.flatMap_map];rfl
theorem R7 (b:Bool)(ls:List (vJ × Value)):(yQ b ls).length=(ls.filter (vD b)).length:=by unfold yQ;simp
variable {w:W8}
theorem zs5 {No:Nat->Prop}{w':W8}{base base':Nat}{bv v:Value}{ls:List (vJ × Value)}{b:Bool}(h:mj w base bv ls)(hk:Below w.heap.size w w')(hr:w'.ownsRow base' 79 2 v (ls.filter (vD b)).length ((ls.filter (vD b)).flatMap vW))(hb:∀ g,No g->g<base')(ht:∀ x∈ls,∀ g,x.2.ownBlock=some g->¬ No g)(hf:∀ x∈ls,x.1.ts.length<=4):jY No w' v (yQ b ls):=by
 have key:∀ x∈yQ b ls,∃ y∈ls,x=zg3 y:=λ x hx=>by
  obtain⟨y,hy,rfl⟩:=List.mem_map.1 hx;exact⟨y,(List.mem_filter.1 hy).1,rfl⟩
 refine⟨⟨base',by rw[R7,R5];exact hr⟩,λ x hx=>?_,λ g hg hn=>?_,λ x hx g hg=>?_,λ x hx=>?_⟩
 ·obtain⟨y,hy,rfl⟩:=key x hx;exact⟨base,zH (h.each y hy) hk (λ g e=>((h.each y hy).lt g e).2)⟩
 ·have:=(hr.lt g hg).1;have:=hb g hn;omega
 ·obtain⟨y,hy,rfl⟩:=key x hx;exact ht y hy g hg
 ·obtain⟨y,hy,rfl⟩:=key x hx;exact hf y hy
def SV (w:W8)(b:Nat)(pv nv mv fv:Value):Prop:=w.heap[b]?=some (.cells #[pv,nv,mv,fv] 361 (0,0))
noncomputable def zqp (p v:Value):Sem Unit:=Instr.storeAt 361 p v
noncomputable def z1d (h:Bool)(v:Value):Sem Value:=Instr.alloc 361 h v
theorem z11 (p v:Value):Instr.storeAt 361 p v=zqp p v:=rfl
theorem z10 (h:Bool)(v:Value):Instr.alloc 361 h v=z1d h v:=rfl
theorem zws (w:W8)(v:Value):(z1d true v).run Tryz.prog w=.ok (.pointer (some ⟨w.heap.size,0,none⟩)) (w.alloc (.cells #[.slice none 0 0,.slice none 0 0,.map none,.nilFunc] 361)):=by
 unfold z1d;simp[Instr.alloc,newVar,newRow,go_sem]
theorem zvv:(Tryz.prog.info? 361).map (·.size)=some 4:=by kernel_rfl
theorem SV.store {b:Nat}{p0 n0 m0 f0:Value}(h:SV w b p0 n0 m0 f0){pv nv mv fv:Value}(h1:pv.oneCell'=true)(h2:nv.oneCell'=true)(h3:mv.oneCell'=true)(h4:fv.oneCell'=true):(zqp (.pointer (some ⟨b,0,none⟩)) (.agg #[pv,nv,mv,fv])).run Tryz.prog w=.ok () (w.setRow b #[pv,nv,mv,fv]):=by
 unfold zqp Instr.storeAt Instr.sureAddr;simp only[Sem.run_bind,Sem.run_pure,Result.andThen_ok];exact run_storeVar_row w b _ 361 _ _ h (by rw[zvv];rfl) rfl (by simp[h1,h2,h3,h4])
end
section
open Go.RowKit Go.Maps
attribute [local go_sem ↓] zcw zbe zdd qB z11 z10
attribute [local go_sem] za2 zdc zws
variable {W:W8}
theorem z2h {m m' l:Nat}{args:Array Value}{R:Ending->W8->Prop}(h:YieldAt Fence.wide m Tryz.prog l args W R):YieldAt Fence.wide m' Tryz.prog l args W R:=by
 obtain⟨fn,tmps,assign,body,hy,hF,hR⟩:=h;exact⟨fn,tmps,assign,body,hy,hF,λ c cs _=>hR c cs (room_wide _)⟩
structure Jk (No:Nat->Prop)(w:W8)(rb xb eb mb:Nat)(pd:B8)(hv bv:Value)(base:Nat)(ls:List (vJ × Value))(K:List (Th × Nat))(e:xF):Prop where
 r:w.heap[rb]?=some (.cells #[.string pd,hv,bv] 123 (0,0))
 x:w.heap[xb]?=some (.cells #[.map (some mb)] 82 (0,0))
 b:BV w eb e
 l:mj w base bv ls
 m:jg w mb K
 nm:¬ No mb
 nt:∀ x∈ls,∀ g,x.2.ownBlock=some g->¬ No g
 no:∀ g,No g->g<w.heap.size
 l3:ls.length<=3
 t4:∀ x∈ls,x.1.ts.length<=4
 h:∃ a n c,hv=.slice a n c
theorem Jk.below {No:Nat->Prop}{w w':W8}{rb xb eb mb:Nat}{pd:B8}{hv bv:Value}{base:Nat}{ls:List (vJ × Value)}{K:List (Th × Nat)}{e:xF}(h:Jk No w rb xb eb mb pd hv bv base ls K e)(k:Below w.heap.size w w'):Jk No w' rb xb eb mb pd hv bv base ls K e:=
 ⟨(k.block _ (Array.getElem?_eq_some_iff.1 h.r).1).trans h.r,(k.block _ (Array.getElem?_eq_some_iff.1 h.x).1).trans h.x,h.b.below k,h.l.below k,h.m.block (k.block _ h.m.lt),h.nm,h.nt,λ g hg=>by have:=h.no g hg;have:=k.size;omega,h.l3,h.t4,h.h⟩
theorem SV.new (w:W8)(pv nv mv fv:Value):SV (w.alloc (.cells #[pv,nv,mv,fv] 361)) w.heap.size pv nv mv fv:=heap_alloc_new w _
variable {pv nv:Value} {w w':W8}
theorem SV.below {b:Nat}{mv fv:Value}(h:SV w b pv nv mv fv)(k:Below w.heap.size w w'):SV w' b pv nv mv fv:=(k.block b (Array.getElem?_eq_some_iff.1 h).1).trans h
theorem SV.put {b:Nat}{p0 n0 m0 f0:Value}(h:SV w b p0 n0 m0 f0)(a a':O8)(n n' c c' m l:Nat):(zqp (.pointer (some ⟨b,0,none⟩)) (.agg #[.slice a n c,.slice a' n' c',.map (some m),.func (.yield l) #[] #[]])).run Tryz.prog w=.ok () (w.setRow b #[.slice a n c,.slice a' n' c',.map (some m),.func (.yield l) #[] #[]]):=h.store rfl rfl rfl rfl
theorem zwt (w:W8)(p0 n0 m0 f0:Value)(a a':O8)(n n' c c' m l:Nat):(zqp (.pointer (some ⟨w.heap.size,0,none⟩)) (.agg #[.slice a n c,.slice a' n' c',.map (some m),.func (.yield l) #[] #[]])).run Tryz.prog (w.alloc (.cells #[p0,n0,m0,f0] 361))=.ok () (w.alloc (.cells #[.slice a n c,.slice a' n' c',.map (some m),.func (.yield l) #[] #[]] 361)):=by
 rw[(SV.new w p0 n0 m0 f0).put,World.setRow_alloc_new]
variable {sb:Nat} {As:List (j6 × Value)} {v:Value} {No:Nat->Prop}
theorem jY.setRow (h:jY No w v As)(cs:Array Value)(h1:∀ g,v.ownBlock=some g->g≠sb)(h2:∀ x∈As,∀ g,x.2.ownBlock=some g->g≠sb):jY No (w.setRow sb cs) v As:=
 ⟨let ⟨b,hb⟩:=h.row;⟨b,xI hb (λ g hg=>setRow_other w sb g cs (h1 g hg))⟩,λ x hx=>let ⟨b,hb⟩:=h.ae x hx;⟨b,xI hb (λ g hg=>setRow_other w sb g cs (h2 x hx g hg))⟩,h.ap,h.Po,h.gH⟩
theorem jY.below (h:jY No w v As)(k:Below w.heap.size w w'):jY No w' v As:=h.og (iT.ai k)
structure Se (No:Nat->Prop)(W:W8)(ls:List (vJ × Value))(sb:Nat)(pv nv:Value)(V:W8):Prop where
 p:jY No V pv (yQ false ls)
 n:jY No V nv (yQ true ls)
 pb:∀ g,pv.ownBlock=some g->g≠sb
 nb:∀ g,nv.ownBlock=some g->g≠sb
 tb:∀ x∈ls,∀ g,x.2.ownBlock=some g->g<W.heap.size
 k:Below W.heap.size W V
variable {ls:List (vJ × Value)}
theorem zc6 {b:Bool}{x:j6 × Value}(hx:x∈yQ b ls):∃ y∈ls,x=zg3 y:=by
 obtain⟨y,hy,rfl⟩:=List.mem_map.1 hx;exact⟨y,(List.mem_filter.1 hy).1,rfl⟩
theorem Se.set {V:W8}(h:Se No W ls sb pv nv V)(hs:W.heap.size<=sb)(cs:Array Value):jY No (V.setRow sb cs) pv (yQ false ls)/\jY No (V.setRow sb cs) nv (yQ true ls)/\Below W.heap.size W (V.setRow sb cs):=
 ⟨h.p.setRow cs h.pb (λ x hx g hg=>by obtain⟨y,hy,rfl⟩:=zc6 hx;have:=h.tb y hy g hg;omega),h.n.setRow cs h.nb (λ x hx g hg=>by obtain⟨y,hy,rfl⟩:=zc6 hx;have:=h.tb y hy g hg;omega),yI h.k hs cs⟩
theorem zsj {w5:W8}{rb xb eb mb:Nat}{pd:B8}{hv bv:Value}{base:Nat}{K:List (Th × Nat)}{e:xF}(h:Jk No W rb xb eb mb pd hv bv base ls K e)(hB:Below W.heap.size W w5){V4 V5:Nat}(hp:w5.ownsRow (V4+1) 79 2 pv (ls.filter (vD false)).length ((ls.filter (vD false)).flatMap vW))(hn:w5.ownsRow (V5+1) 79 2 nv (ls.filter (vD true)).length ((ls.filter (vD true)).flatMap vW))(h4:W.heap.size<=V4)(h5:W.heap.size<=V5)(sb:Nat)(pb:∀ g,pv.ownBlock=some g->g≠sb)(nb:∀ g,nv.ownBlock=some g->g≠sb):Se No W ls sb pv nv w5:=
 ⟨zs5 h.l hB hp (λ g hg=>by have:=h.no g hg;omega) h.nt h.t4,zs5 h.l hB hn (λ g hg=>by have:=h.no g hg;omega) h.nt h.t4,pb,nb,λ x hx g hg=>((h.l.each x hx).lt g hg).2,hB⟩
def yZ (ls:List (vJ × Value)):List j6:=(yQ false ls).map (·.1)
def zbh (ls:List (vJ × Value)):List j6:=(yQ true ls).map (·.1)
abbrev Is (K:List (Th × Nat))(ls:List (vJ × Value))(e:xF):={ x:xF // x∈zbq K (zbh ls) (yZ ls) e }
def zdn (ls:List (vJ × Value)):List B8:=(yZ ls).flatMap λ x=>x.ts.map (·.2)
theorem zkh {x:j6}(hx:x∈yZ ls){t:zgr}(ht:t∈x.ts):t.2∈zdn ls:=List.mem_flatMap.2 ⟨x,hx,List.mem_map_of_mem ht⟩
theorem zj1 {α β:Type}{f:α->List β}{n:Nat}:∀ (l:List α),(∀ x∈l,(f x).length<=n)->(l.flatMap f).length<=n*l.length
 | [],_=>by simp
 | x::l,h=>by
  have h1:=h x List.mem_cons_self;have h2:=zj1 l (λ y hy=>h y (List.mem_cons_of_mem _ hy));rw[List.flatMap_cons,List.length_append,List.length_cons,Nat.mul_succ];omega
theorem zgb (h3:ls.length<=3)(h4:∀ x∈ls,x.1.ts.length<=4):(zdn ls).length<=12:=by
 have h1:=zj1 (n:=4) (f:=λ x:j6=>x.ts.map (·.2)) (yZ ls) (λ x hx=>by
  obtain⟨y,hy,rfl⟩:=List.mem_map.1 hx;obtain⟨z,hz,rfl⟩:=zc6 hy;rw[List.length_map]
  exact h4 z hz)
 have h2:(yZ ls).length<=3:=by unfold yZ;rw[List.length_map,R7];exact Nat.le_trans (List.length_filter_le _ _) h3
 unfold zdn;omega
theorem zsv (No:Nat->Prop)(n:Nat)(w:W8)(rb xb eb mb:Nat)(pd:B8)(hv bv:Value)(base:Nat)(ls:List (vJ × Value))(K:List (Th × Nat))(e:xF)(h:Jk No w rb xb eb mb pd hv bv base ls K e)(cd:∀ e'∈yY K (yZ ls) e,∀ x∈zbh ls,zhm (xZ e' x))(GF:jQ (zdn ls) e):
  SeqStopsK Fence.wide n Tryz.prog 233 #[.pointer (some ⟨rb,0,none⟩),.pointer (some ⟨xb,0,none⟩),.pointer (some ⟨eb,0,none⟩)] (λ x:Is K ls e=>#[jV x.1]) (iT No) (λ xs=>∀ x,x∈xs) (λ _=>True) (K.length ^ (yZ ls).length) w:=by
 intro l J' Wu W hW To hJx' hY Nc;have hI:=h.below hW;obtain⟨J,IL⟩:∃ J:List xF->W8->Prop,J=λ pre V=>∃ Cv:List (Is K ls e),Cv.map (·.1)=pre/\J' Cv V:=⟨_,rfl⟩
 obtain⟨Jx,Gp⟩:∃ Jx:List xF->W8->Prop,Jx=λ pre V=>∃ Cv:List (Is K ls e),Cv.map (·.1)=pre/\Wu Cv V:=⟨_,rfl⟩
 have hJ:AbidesFrom W.heap.size J:=λ s A B row hs hg hr=>by
  rw[IL] at hs ⊢;obtain⟨p',h1,h2⟩:=hs;exact⟨p',h1,To p' A B row h2 hg hr⟩
 have h0:J [] W:=by rw[IL];exact⟨[],rfl,Nc⟩
 have hR:zxx No l (K.length ^ (yZ ls).length) (λ x=>x∈zbq K (zbh ls) (yZ ls) e) J Jx:=λ m pre x W1 hx h1 h2=>by
  rw[IL] at h1;obtain⟨p',Eh,h1⟩:=h1;refine z2h (YieldAt.mono (hY p' ⟨x,hx⟩ W1 h1 (by rw[<-Eh,List.length_map] at h2;exact h2)) ?_);rintro en W' (⟨rfl,h3,h4⟩ | ⟨rfl,h3⟩)
  ·exact⟨true,rfl,λ _=>⟨by rw[IL];exact⟨p'++[⟨x,hx⟩],by simp[Eh],h3⟩,h4⟩,λ h=>by cases h⟩
  ·exact⟨false,rfl,(λ h=>by cases h),λ _=>by rw[Gp];exact⟨p'++[⟨x,hx⟩],by simp[Eh],h3⟩⟩
 have VE:=zC IL;have OH:=zC Gp;refine callsIn_wide.2 ?_;obtain⟨ab,cb,rfl⟩:=zD h.l.row;obtain⟨ah,nh,ch,rfl⟩:=h.h;obtain⟨c0,-⟩:=zB hI.r 0;obtain⟨c1,-⟩:=zB hI.r 1;obtain⟨c2,-⟩:=zB hI.r 2;obtain⟨d0,-⟩:=zB hI.x 0;have l3:=hI.l3;have oQ:=(Array.getElem?_eq_some_iff.1 hI.r).1;have nU:=(Array.getElem?_eq_some_iff.1 hI.x).1;have HI:=zC hI;have HJ:=zC hJ;have HR:=zC hR;have Vz:=zC h0;have gK:=zC cd;have Dx:=zC GF;simp only[List.getElem?_toArray,List.getElem?_cons_zero,List.getElem?_cons_succ] at c0 c1 c2 d0;have HP:=zC (λ (V:W8) (hV:Below W.heap.size W V)=>zcs V base pd ah nh ch ab cb ls (hI.l.below hV) (by omega));have HN:=zC (λ (V:W8) (hV:Below W.heap.size W V)=>zip V base pd ah nh ch ab cb ls (hI.l.below hV) (by omega));have HA:=zC (λ (V:W8) (hV:Below W.heap.size W V)=>(show V.cell? ⟨rb,0,none⟩=some (.string pd)/\V.cell? ⟨rb,1,none⟩=some (.slice ah nh ch)/\V.cell? ⟨rb,2,none⟩=some (.slice ab ls.length cb)/\V.cell? ⟨xb,0,none⟩=some (.map (some mb)) from ⟨(hV.cell (p:=⟨rb,0,none⟩) oQ).trans c0,(hV.cell (p:=⟨rb,1,none⟩) oQ).trans c1,(hV.cell (p:=⟨rb,2,none⟩) oQ).trans c2,(hV.cell (p:=⟨xb,0,none⟩) nU).trans d0⟩));clear h hI hR hJ To hJx' hY h0 Nc cd GF hW IL Gp;go_enter Tryz.func233,Tryz.ntmps233;go_upto_region 0 with fail
 go_cut [5] from 6 to 15 (λ p wc=>∃ sb pv nv,p=.pointer (some ⟨sb,0,none⟩)/\W.heap.size<=sb/\SV wc sb pv nv (.map (some mb)) (.func (.yield l) #[] #[])/\jY No wc pv (yQ false ls)/\jY No wc nv (yQ true ls)/\Below W.heap.size W wc)
 case first=>
  have FB:=zwt
  go_region_held3 (λ V=>V.cell? ⟨rb,0,none⟩=some (.string pd)/\V.cell? ⟨rb,1,none⟩=some (.slice ah nh ch)/\V.cell? ⟨rb,2,none⟩=some (.slice ab ls.length cb)/\V.cell? ⟨xb,0,none⟩=some (.map (some mb))) ((refine zA HA _ ?_;first | exact B9.drew | exact (B9.alloc L9 _).drew | exact dT | exact dT.alloc dT.size _ | exact Bl | exact Bl.alloc Bl.size _ | exact yI Bl L9 _ | exact yI Bl dT.size _)) ((first
   | (go_at_call 164;refine (zA HP _ (by first | exact B9.drew | exact (B9.alloc L9 _).drew)).mono ?_;rintro en w4 ⟨a4,c4,rfl,oc,cM,Di⟩;have dT:Below W.heap.size W w4:=(by first | exact zV cM | exact zes (B9.alloc L9 _) cM);have DH:=zC oc;clear oc)
   | (go_at_call 223;refine (zA HN _ (by first | exact dT | exact dT.alloc dT.size _)).mono ?_;rintro en w5 ⟨a5,c5,rfl,Uy,eH,US⟩;have Bl:Below W.heap.size W w5:=(by first | exact dT.trans (eH.mono dT.size) | exact (dT.alloc dT.size _).trans (eH.mono (by simp;have:=dT.size;omega)));have V6:=zC Uy;clear Uy;first | (have Rk:=(((SV.new W _ _ _ _).below (zV cM)).below eH).put a4 a5 (ls.filter (vD false)).length (ls.filter (vD true)).length c4 c5 mb l) | (have Rk:=((SV.new w4 _ _ _ _).below eH).put a4 a5 (ls.filter (vD false)).length (ls.filter (vD true)).length c4 c5 mb l) | skip)))
  all_goals
   go_wp2_with fail;go_meet
   case rel=>
    have I4:=zA V6
    first
     | (have Dg:=zH (zA DH) eH (λ g e=>((zA DH).lt g e).2);have hR:=zsj (zA HI) Bl Dg I4 L9 dT.size w5.heap.size (λ g hg=>by have:=(Dg.lt g hg).2;omega) (λ g hg=>by have:=(I4.lt g hg).2;omega);exact⟨_,_,_,rfl,Bl.size,SV.new _ _ _ _ _,hR.p.below (B9.alloc L9 _),hR.n.below (B9.alloc L9 _),Bl.alloc Bl.size _⟩)
     | (have Dg:=zH (zA DH) ((((Below.refl _ w4).alloc L9 _)).trans (eH.mono (by simp))) (λ g e=>((zA DH).lt g e).2);have hR:=zsj (zA HI) Bl Dg I4 L9 (by simp;have:=dT.size;omega) w4.heap.size (λ g hg=>by have:=((zA DH).lt g hg).2;omega) (λ g hg=>by have:=(I4.lt g hg).1;simp at this;omega);obtain⟨q1,q2,q3⟩:=hR.set dT.size #[.slice a4 (ls.filter (vD false)).length c4,.slice a5 (ls.filter (vD true)).length c5,.map (some mb),.func (.yield l) #[] #[]];exact⟨_,_,_,rfl,dT.size,setRow_heap _ _ _ _ _ _ ((SV.new w4 _ _ _ _).below eH),q1,q2,q3⟩)
     | (have Dg:=zH (zA DH) eH (λ g e=>((zA DH).lt g e).2);have hR:=zsj (zA HI) Bl Dg I4 (by simp) dT.size W.heap.size (λ g hg=>by have:=(Dg.lt g hg).1;simp at this;omega) (λ g hg=>by have:=(I4.lt g hg).1;have:=dT.size;omega);obtain⟨q1,q2,q3⟩:=hR.set L9 #[.slice a4 (ls.filter (vD false)).length c4,.slice a5 (ls.filter (vD true)).length c5,.map (some mb),.func (.yield l) #[] #[]];exact⟨_,_,_,rfl,Nat.le_refl _,setRow_heap _ _ _ _ _ _ (((SV.new W _ _ _ _).below (zV cM)).below eH),q1,q2,q3⟩)
 case rest=>
  obtain⟨sb,pv,nv,rfl,I8,tT,TM,Nn,pc⟩:=hcut;have dj:=(zA HI).below pc;have aR:=(zA HI).no;have hC:Ij No wc sb mb l (yQ false ls) (yQ true ls) pv nv K:=⟨tT,λ hn=>by have:=aR _ hn;omega,TM,Nn,dj.m,dj.nm,by rw[R7];exact Nat.le_trans (List.length_filter_le _ _) dj.l3⟩;have b8:(yZ ls).length=(yQ false ls).length:=by unfold yZ;simp
  have HF:=zC (z3m No sb mb l (yQ false ls) (yQ true ls) pv nv K (λ x=>x∈zbq K (zbh ls) (yZ ls) e) J Jx W.heap.size (K.length ^ (yZ ls).length) (zA HJ) (zA HR) aR (zdn ls) (zgb (zA HI).l3 (zA HI).t4) (λ x hx t ht _=>zkh (List.mem_map_of_mem hx) ht) (yQ false ls).length 0 e wc [] (Nat.zero_add _) hC (qX (zA HJ) (zA Vz) pc) pc.size (zA Dx) (λ e' oa x hx=>zA gK e' oa x.1 (List.mem_map_of_mem hx)) (by rw[b8];simp) (λ x hx=>hx));have Eb:=dj.b.load;clear dj hC tT TM Nn;go_wp2_with (go_at_call 234;refine (zA HF).mono ?_;rintro en w6 (⟨rfl,h6⟩ | ⟨rfl,h6⟩) <;> (have H6:=zC h6;clear h6))
  ·go_end0;obtain⟨ys,h1,_,h3,_⟩:=zA H6;rw[List.nil_append,zA VE] at h3;obtain⟨N3,hy,h3⟩:=h3;refine⟨⟨_,rfl⟩,.inl ⟨N3,λ x=>?_,h3⟩⟩;have h4:x.1∈N3.map (·.1):=(by rw[hy];exact (h1 x.1).2 x.2);obtain⟨y,FK,Ml⟩:=List.mem_map.1 h4;rw[<-Subtype.ext Ml];exact FK
  ·go_end0;obtain⟨ys,h1,h3⟩:=zA H6;rw[List.nil_append,zA OH] at h3;obtain⟨N3,hy,h3⟩:=h3;exact⟨⟨_,rfl⟩,.inr ⟨N3,trivial,h3⟩⟩
end
end Go.Proofs.YtldkpahaocjdpaaGreat
