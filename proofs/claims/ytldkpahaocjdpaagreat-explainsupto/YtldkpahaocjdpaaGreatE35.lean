/-
  A thing's text: as its atom is written.
-/
import Derived.Test.YtldkpahaocjdpaaGreatE34
import Derived.Shelf.Sort.Plain
import Derived.Shelf.Slices.In.SortNone
import Derived.Sort.OwnSorted
set_option maxHeartbeats 16000000
set_option maxRecDepth 1000000
namespace Go.Proofs.YtldkpahaocjdpaaGreat
section
open Go.RowKit Go.Maps
attribute [local go_sem ↓] za9 qN qQ qM
attribute [local go_sem] jV jT
theorem z3x (w:W8)(base:Nat)(pd:B8)(a:O8)(c:Nat)(ts:List (Bool × B8))(h:w.ownsRow base 191 1 (.slice a ts.length c) ts.length (xI ts))(hlen:(zaw pd ts).length<=1000000000):
  Calls Tryz.prog 102 #[.agg #[.string pd,.slice a ts.length c]] w λ e w'=>e=.returned (.string ⟨(zaw pd ts).toArray⟩)/\Below w.heap.size w w':=by
 have b1:=(Below.refl w.heap.size w).alloc L9 (.cells #[.string pd,.slice a ts.length c] 79);have h0:xc (w.heap.size+1) (w.heap.size+1) [] ((w.alloc (.cells #[.string pd,.slice a ts.length c] 79)).alloc (.cells #[.pointer none,.slice none 0 0] 155)):=by
  have:=Lib.fresh_isBuilder 155 5 (w.alloc (.cells #[.string pd,.slice a ts.length c] 79));rw[World.size_alloc] at this;exact this
 have b0:=b1.alloc (by simp) (.cells #[.pointer none,.slice none 0 0] 155);have hr:=zJ h b0 (λ g e=>(h.lt g e).2);have HW:=zC (z2r (w.heap.size+1) (w.heap.size+1) [] pd a c base ts _ h0 hr (by simpa using hlen) (by simp));have oT:=zC b0;clear h h0 b0 b1 hr;go_enter Tryz.func102,Tryz.ntmps102;go_wp2_with (go_at_call 110;refine (zA HW).mono ?_;rintro e w1 ⟨rfl,h1,aL,-,aY⟩);refine (Tryz.Builder_String_any (w.heap.size+1) (w.heap.size+1) _ _ h1 aY).mono ?_;rintro e w2 ⟨rfl,aK⟩;have HB:=zC ((zA oT).trans ((aL.trans aK).mono (by omega)));clear h1 aL aY aK;go_wp2_with fail;go_ret;exact⟨rfl,zA HB⟩
def xA (t:Th):List (Bool × B8):=t.2.map λ x=>(false,x)
def xF (t:Th):B8:=⟨(zaw t.1 (xA t)).toArray⟩
structure yd4 (w:W8)(t:Th)(l:List B8)(tv:Value)(wr:W8):Prop where
 th:TV wr w.heap.size t
 at_:wr.heap[w.heap.size+1]?=some (.cells #[.string t.1,tv] 79 (0,0))
 row:wr.ownsRow (w.heap.size+1+1) 191 1 tv l.length (xI (l.map λ x=>(false,x)))
 k:Below w.heap.size w wr
theorem zmr (s:B8):s.toList.length=s.size:=by rw[ByteArray.toList_eq];exact jH s
theorem z95 {w:W8}{t:Th}{l:List B8}{a1 a5:O8}{c1 c5:Nat}{wr w5:W8}{o:Obj}{x:B8}(yw:w.heap.size+1<wr.heap.size)(ay:w5.ownsRow (w.heap.size+1+1) 191 1 (.slice a5 (l.length+1) c5) (l.length+1) (xI (l.map λ x=>(false,x))++[zeb false x]))(hg:(wr.alloc o).grownBy w5 (Value.slice a1 l.length c1).ownBlock)(h:yd4 w t l (.slice a1 l.length c1) wr):
  yd4 w t (l++[x]) (.slice a5 (l++[x]).length c5) (w5.setCell ⟨w.heap.size+1,1,none⟩ (.slice a5 (l.length+1) c5))/\w5.heap[w.heap.size+1]?=some (.cells #[.string t.1,.slice a1 l.length c1] 79 (0,0)):=by
 have hb:∀ i,i<=w.heap.size+1->w5.heap[i]?=wr.heap[i]?:=λ i hi=>by
  rw[hg.block i (by simp;omega) (λ e=>by have:=(h.row.lt i e.symm).1;omega),Below.heap_alloc _ _ _ (by omega)]
 have dv:=(hb _ L9).trans h.at_;refine⟨⟨?_,?_,?_,?_⟩,dv⟩
 ·show _=_
  rw[Below.heap_setCell _ _ _ _ (by simp)];exact (hb _ (by omega)).trans h.th
 ·rw[setCell_eq_setRow w5 _ _ _ _ (0,0) _ dv,setRow_heap _ _ _ _ _ _ dv];simp
 ·have e1:(l++[x]).length=l.length+1:=by simp
  have e2:xI ((l++[x]).map λ x=>(false,x))=xI (l.map λ x=>(false,x))++[zeb false x]:=by simp[xI]
  rw[e1,e2];exact zZ ay (λ g nJ=>Below.heap_setCell _ _ _ _ (by have:=(ay.lt g nJ).1;simp;omega))
 ·have h5:Below w.heap.size w w5:=⟨hg.os.trans h.k.os,hg.tape.trans h.k.tape,hg.output.trans h.k.output,Nat.le_trans h.k.size (Nat.le_trans (by simp) hg.size),λ i hi=>(hb i (by omega)).trans (h.k.block i hi)⟩;exact h5.setCell (p:=⟨w.heap.size+1,1,none⟩) (by simp) _
theorem zz3 (w:W8)(t:Th)(ht:zdu t)(hlen:(zaw t.1 (xA t)).length<=1000000000):
  Calls Tryz.prog 63 #[thV t] w λ e w'=>e=.returned (.string (xF t))/\Below w.heap.size w w':=by
 obtain⟨i0,hi,bL,aY,bf⟩:=info_parts zs8;obtain⟨ct,lJ⟩:∃ ct,ct=(zV t).toArray:=⟨_,rfl⟩;have pC:=zC lJ;unfold thV;rw[<-lJ];clear lJ;have HT:=zC ht;clear ht;have c0:(w.alloc (.cells ct 88)).cell? ⟨w.heap.size,0,none⟩=some (.string t.1):=by
  rw[(zB (heap_alloc_new w (.cells ct 88)) 0).1,zA pC];rfl
 go_enter Tryz.func63,Tryz.ntmps63;go_upto_region 2 with fail;generalize bC:World.alloc (World.alloc w _) _=w0;have h0:yd4 w t [] (.slice none 0 0) w0:=by
  have k0:Below w.heap.size w ((w.alloc (.cells ct 88)).alloc (.cells #[.string t.1,.slice none 0 0] 79)):=(B9.alloc L9 _).alloc (by simp) _;rw[<-bC];refine⟨?_,?_,World.ownsRow_nil _ _ _ _,k0⟩
  ·show _=_
   rw[Below.heap_alloc _ _ _ (by simp),<-zA pC];exact heap_alloc_new w _
  ·have:=heap_alloc_new (w.alloc (.cells ct 88)) (.cells #[.string t.1,.slice none 0 0] 79);rw[World.size_alloc] at this;exact this
 have H0:=zC h0;have xz:w.heap.size+1<w0.heap.size:=(Array.getElem?_eq_some_iff.1 h0.at_).1;clear bC c0 h0;go_wp2_with fail
 go_loopg [11] 4 (λ gg i wr=>∃ (k:Nat) (l:List B8) (tv:Value),k<=4/\gg=4-k/\i=.int .i64 (k:Nat)/\l=t.2.take k/\yd4 w t l tv wr)
 exact⟨0,[],_,by omega,rfl,rfl,rfl,zA H0⟩
 case round=>
  clear H0;obtain⟨k,l,tv,hk,eA,rfl,hl,ax⟩:=hrel;obtain⟨a1,ep,rfl⟩:=zD ax.row;have yw:w.heap.size+1<wr.heap.size:=(Array.getElem?_eq_some_iff.1 ax.at_).1;have bT:=zC ax;have gY:l.length<=4:=by rw[hl];simp;omega
  have HL:=zC hl;obtain⟨q0,z0⟩:=zB ax.at_ 0;obtain⟨q1,z1⟩:=zB ax.at_ 1;simp only[List.getElem?_toArray,List.getElem?_cons_zero,List.getElem?_cons_succ] at q0 q1
  by_cases aF:k<4
  ·have cd:wr.cell? ⟨w.heap.size,1+k,none⟩=some (.string (xW t.2 k)):=by
    rw[(zB ax.th (1+k)).1,List.getElem?_toArray];exact zc8 t aF
   have nz:(k:Int)<4:=(by omega);clear ax hl
   by_cases aH:k<t.2.length
   ·have bF:((xW t.2 k).toList==[])=false:=by
     have pO:0<(xW t.2 k).size:=zp1 (zA HT) aH
     cases hq:(xW t.2 k).toList==[] with
     | false=>rfl
     | true=>rw[beq_iff_eq] at hq;have h2:=zmr (xW t.2 k);rw[hq] at h2;simp at h2;omega
    have aB:=(zA bT).row;have MY:=zC (show t.2.take (k+1)=l++[xW t.2 k] by rw[List.take_succ_eq_append_getElem aH,zA HL];congr 2;unfold xW;rw[List.getElem?_eq_getElem aH];rfl);go_wp2_with (at_builtin;refine wpList_append_own _ rfl _ _ 77 rfl (w.heap.size+1+1) 191 i0 _ 1 16 Tryz.underlying77 hi bL aY bf rfl (by decide) _ _ _ rfl (aB.alloc _) ⟨wr.heap.size,0,none⟩ 1 1 [zeb false (xW t.2 k)] rfl rfl (zup wr _) (z2i _ _) (by unfold maxLen;omega) (by omega) (by simp;omega) ?_;intro v5 w5 aq aU hne5;clear hne5;obtain⟨a5,eI,rfl⟩:=zD aq;obtain⟨r1,r2⟩:=z95 yw aq aU (zA bT);obtain⟨y1,x1⟩:=zB r2 1;simp only[List.getElem?_toArray,List.getElem?_cons_zero,List.getElem?_cons_succ] at y1;have H5:=zC r1;have H6:=zC r2;clear aq aU r1 r2);go_roundg (4-(k+1));exact⟨k+1,l++[xW t.2 k],_,by omega,rfl,by go_num,(zA MY).symm,(zA H5)⟩;omega
   ·have bF:((xW t.2 k).toList==[])=true:=by
     have h2:=zmr (xW t.2 k);rw[zmo (l:=t.2) (i:=k) (by omega)] at h2;rw[beq_iff_eq];exact List.length_eq_zero_iff.1 h2
    go_wp2_with fail;go_roundg (4-(k+1));exact⟨k+1,l,_,by omega,rfl,by go_num,by rw[zA HL,List.take_of_length_le (by omega),List.take_of_length_le (by omega)],zA bT⟩;omega
  ·have aH:l=t.2:=(by rw[hl,List.take_of_length_le];have hfw:t.2.length<=4:=(zA HT).eJ;omega);have aB:=ax.row;have HC:=zC (z3x wr (w.heap.size+1+1) t.1 a1 ep (xA t) (by unfold xA;rw[List.length_map,<-aH];exact aB) hlen);have oe:(xA t).length=l.length:=(by unfold xA;rw[List.length_map,aH]);rw[oe] at HC;have HK:=zC ax.k;clear ax hl aB aH oe;go_wp2_with (go_at_call 102;refine (zA HC).mono ?_;rintro e w2 ⟨rfl,aK⟩;have ir:=zC aK;clear aK);go_ret;exact⟨rfl,(zA HK).trans ((zA ir).mono (zA HK).size)⟩
end
section
open Go.RowKit Go.Maps
attribute [local go_sem ↓] zcf zbb zct j8 za9 qN qQ qM
attribute [local go_sem] qR zbi jV jT
theorem zpj {L:List (Th × Nat)}(h:(L.map (·.1)).Nodup):L.Nodup:=by
 induction L with
 | nil=>simp
 | cons x r ih=>
  rw[List.map_cons,List.nodup_cons] at h;exact List.nodup_cons.2 ⟨λ hm=>h.1 (List.mem_map_of_mem hm),ih h.2⟩
end
section
open Go.RowKit Go.Maps
def zc3 (S:B8->Nat)(s:Nat)(r:PR):Bool:=S r.R.pd==s
structure D2 (w:W8)(base:Nat)(rv:Value)(rs:List PR)(tb n:Nat)(ps:P9)(S:B8->Nat)(l:List PR)(v:Value)(wr:W8):Prop where
 row:wr.ownsRow w.heap.size 123 3 v l.length (l.flatMap PR.cells)
 below:Below w.heap.size w wr
variable {wr w:W8} {v rv:Value} {l rs:List PR} {S:B8->Nat} {ps:P9} {tb n base:Nat}
theorem D2.alloc (h:D2 w base rv rs tb n ps S l v wr)(o:Obj):D2 w base rv rs tb n ps S l v (wr.alloc o):=⟨h.row.alloc o,h.below.alloc h.below.size _⟩
theorem D2.append {v':Value}{w5:W8}(h:D2 w base rv rs tb n ps S l v wr){r:PR}(ay:w5.ownsRow w.heap.size 123 3 v' (l.length+1) (l.flatMap PR.cells++r.cells))(hg:wr.grownBy w5 v.ownBlock):D2 w base rv rs tb n ps S (l++[r]) v' w5:=by
 have hs:=h.below.size;have hb:∀ g,g<w.heap.size->w5.heap[g]?=wr.heap[g]?:=λ g nJ=>hg.block g (by omega) (λ e=>by have:=(h.row.lt g e.symm).1;omega)
 refine⟨?_,h.below.trans ⟨hg.os,hg.tape,hg.output,hg.size,hb⟩⟩;simpa using ay
def yc3 (w:W8)(base:Nat)(rs:List PR)(S:B8->Nat)(s:Nat)(en:Ending)(w':W8):Prop:=
 ∃ a c,en=.returned (.slice a (rs.filter (zc3 S s)).length c)/\Below w.heap.size w w'/\ig w' base (.slice a (rs.filter (zc3 S s)).length c) (rs.filter (zc3 S s))
theorem z0x (w:W8)(base:Nat)(ar:O8)(cr:Nat)(rs:List PR)(tb n:Nat)(ps:P9)(S:B8->Nat)(s:Nat)(h:ig w base (.slice ar rs.length cr) rs)(hb:base<=w.heap.size)(ht:dE Tryz.prog 9 w tb n (stV ps S))(hl:rs.length<=1000)(iU:∀ r∈rs,r.R.pd.size<=800/\(yY ps r.R.pd).isSome=true):
  Calls Tryz.prog 61 #[.slice ar rs.length cr,.map (some tb),.int .i64 (s:Nat)] w (yc3 w base rs S s):=by
 obtain⟨i0,hi,bL,aY,bf⟩:=info_parts zri;have H:=zC h;have HT:=zC ht;have Kw:=zC iU;have h0:D2 w base (.slice ar rs.length cr) rs tb n ps S [] (.slice none 0 0) w:=⟨World.ownsRow_nil _ _ _ _,Below.refl _ _⟩;have H0:=zC h0;have rE:=ht.lt;clear h ht iU h0;have Lo:=zpd;go_enter Tryz.func61,Tryz.ntmps61;go_wp2_with fail
 go_loopg [7,12] rs.length (λ gg v i wr=>∃ k:Nat,k<=rs.length/\gg=rs.length-k/\i=.int .i64 k/\D2 w base (.slice ar rs.length cr) rs tb n ps S ((rs.take k).filter (zc3 S s)) v wr)
 exact⟨0,Nat.zero_le _,rfl,rfl,zA H0⟩
 case round=>
  clear H0;obtain⟨k,hk,eA,rfl,hinv⟩:=hrel;obtain⟨a1,ep,rfl⟩:=zD hinv.row
  by_cases aF:k<rs.length
  ·obtain⟨r,nw⟩:∃ r,r=rs[k]:=⟨_,rfl⟩;have cg:r∈rs:=(by rw[nw];exact List.getElem_mem aF);have ax:=(zA H).each r cg;obtain⟨ah,ch,uh⟩:=zD ax.hd;obtain⟨ab,cb,tK⟩:=zD ax.bo.row;obtain⟨g,cap,hv,iG,aZ,bO,bP,hc⟩:=vU zu6 (zA H).row k aF;injection hv with h1 h2 h3
   subst h1 h3;have eo:=hinv.below;have e0:wr.cell? ⟨g,k*3,none⟩=some (.string r.R.pd):=(by rw[nw];exact (eo.cell (p:=⟨g,k*3,none⟩) aZ).trans (hc 0 (by omega)));have e1:wr.cell? ⟨g,k*3+1,none⟩=some (.slice ah r.R.ts.length ch):=(by rw[<-uh,nw];exact (eo.cell (p:=⟨g,k*3+1,none⟩) aZ).trans (hc 1 (by omega)));have e2:wr.cell? ⟨g,k*3+2,none⟩=some (.slice ab r.bs.length cb):=(by rw[<-tK,nw];exact (eo.cell (p:=⟨g,k*3+2,none⟩) aZ).trans (hc 2 (by omega)));have nz:(k:Int)<rs.length:=(by omega);have hI:=hinv.alloc (.cells #[.string r.R.pd,.slice ah r.R.ts.length ch,.slice ab r.bs.length cb] 123);have Cn:dE Tryz.prog 9 (wr.alloc (.cells #[.string r.R.pd,.slice ah r.R.ts.length ch,.slice ab r.bs.length cb] 123)) tb n (stV ps S):=(zA HT).block (hI.below.block tb rE);obtain⟨fl,pO⟩:=zA Kw r cg;have dF:r.R.pd.size<=maxLen:=(by unfold maxLen;omega);obtain⟨m,hm⟩:=Option.isSome_iff_exists.1 pO;have hu:(stV ps S r.R.pd).getD (.agg #[.string { data:=#[] },.int .i64 0,.int .i64 0])=.agg #[.string r.R.pd,.int .i64 (S r.R.pd),.int .i64 m]:=(by unfold stV;rw[hm];rfl);have kn:((rs.take k).filter (zc3 S s)).length<=1000:=Nat.le_trans (List.length_filter_le _ _) (by simp;omega);have Mw:r=⟨r.R,.slice ah r.R.ts.length ch,r.bs,.slice ab r.bs.length cb⟩:=(by rw[<-uh,<-tK]);have YJ:=zC Mw;have oV:=zC (zhd (f:=zc3 S s) aF);have xd:=zC nw;have yw:=hinv.below.size;clear hc hinv ax nw cg eo h2 pO hm uh tK Mw
   cases hq:zc3 S s r with
   | true=>
    have O9:(S r.R.pd:Int)=s:=(by have:S r.R.pd=s:=(by simpa[zc3] using hq);omega);have HQ:=zC hq;have bH:=(hI.alloc (.cells #[.string r.R.pd,.slice ah r.R.ts.length ch,.slice ab r.bs.length cb] 123)).row;have HI:=zC (hI.alloc (.cells #[.string r.R.pd,.slice ah r.R.ts.length ch,.slice ab r.bs.length cb] 123));clear hI hq
    go_wp2_with (first
     | (at_lookup;refine zfk _ rfl _ _ 73 rfl 9 185 Tryz.underlying9 Tryz.underlying73 (Tryz.zeroValue185 _) tb n (stV ps S) rfl Cn r.R.pd rfl dF _ hu ?_)
     | (at_builtin;refine wpList_append_own _ rfl _ _ 75 rfl w.heap.size 123 i0 _ 3 64 Tryz.underlying75 hi bL aY bf rfl (by decide) _ _ _ rfl bH ⟨wr.heap.size+1,0,none⟩ 1 1 (PR.mk r.R (.slice ah r.R.ts.length ch) r.bs (.slice ab r.bs.length cb)).cells rfl rfl (z22 wr _ (PR.mk r.R (.slice ah r.R.ts.length ch) r.bs (.slice ab r.bs.length cb))) (z9t _ _ _ _ _ _ _ _) (by unfold maxLen;omega) (by omega) (by simp;omega) ?_;intro v5 w5 aq aU hne5;clear hne5;obtain⟨a5,eI,rfl⟩:=zD aq;have yu:=zC ((zA HI).append aq aU);clear aq aU))
    go_roundg (rs.length-(k+1))
    case measure=>omega
    case rel=>
     refine⟨k+1,by omega,rfl,by go_num,?_⟩;rw[zA oV,<-zA xd,zA HQ,if_pos rfl,zA YJ];exact zA yu
   | false=>
    have O9:¬ ((S r.R.pd:Int)=s):=(by have:S r.R.pd≠s:=(by simpa[zc3] using hq);omega);have HQ:=zC hq;have HI:=zC hI;clear hI hq;go_wp2_with (at_lookup;refine zfk _ rfl _ _ 73 rfl 9 185 Tryz.underlying9 Tryz.underlying73 (Tryz.zeroValue185 _) tb n (stV ps S) rfl Cn r.R.pd rfl dF _ hu ?_);go_roundg (rs.length-(k+1))
    case measure=>omega
    case rel=>
     refine⟨k+1,by omega,rfl,by go_num,?_⟩;rw[zA oV,<-zA xd,zA HQ,if_neg (by decide),List.append_nil];exact zA HI
  ·have e:(rs.take k).filter (zc3 S s)=rs.filter (zc3 S s):=(by rw[List.take_of_length_le (by omega)]);rw[e] at hinv ⊢;have HI:=zC hinv;clear hinv;go_wp2_with fail;go_ret;have hI:=zA HI
   exact⟨_,_,rfl,hI.below,⟨zG hI.row hb,λ r hr=>by
    have ax:=(zA H).each r (List.mem_filter.1 hr).1
    exact⟨zJ ax.hd hI.below (λ g e=>(ax.hd.lt g e).2),ax.bo.below hI.below,ax.eq⟩⟩⟩
end
section
open Go.RowKit Go.Maps
structure ydw (w:W8)(tb n:Nat)(ps:P9)(S:B8->Nat)(Lf:B8->Prop)(m eD:Nat)(wr:W8):Prop where
 rg:Gf Tryz.prog 9 wr tb w.heap.size n (stV ps S) Lf eD
 lo:∀ k,(stV ps S k).isSome=true->¬ Lf k->S k+1<=m
 hi:m=0\/∃ k,(stV ps S k).isSome=true/\m=S k+1
 k:Below w.heap.size w wr
def zfa (ps:P9)(S:B8->Nat)(m:Nat):Prop:=(∀ k,(yY ps k).isSome=true->S k+1<=m)/\(m=0\/∃ k,(yY ps k).isSome=true/\m=S k+1)
theorem NB (ps:P9)(S:B8->Nat)(k:B8):(stV ps S k).isSome=(yY ps k).isSome:=by unfold stV;cases yY ps k <;> rfl
theorem z1z (w:W8)(tb n:Nat)(ps:P9)(S:B8->Nat)(h:dE Tryz.prog 9 w tb n (stV ps S))(hS:∀ k,(yY ps k).isSome=true->S k<=1000000):
  Calls Tryz.prog 59 #[.map (some tb)] w λ en w'=>∃ m:Nat,en=.returned (.int .i64 (m:Nat))/\zfa ps S m/\Below w.heap.size w w':=by
 have HS:=zC hS;have rE:=h.lt;clear hS;go_enter Tryz.func59,Tryz.ntmps59;go_wp2_with (first | (at_range;refine z8t _ rfl _ 73 rfl 9 185 Tryz.underlying9 Tryz.underlying73 tb n (stV ps S) rfl h ?_;intro w0 cnt0 hrg0 MT xi rk) | go_in)
 try go_frame
 have h0:ydw w tb n ps S (λ k=>(stV ps S k).isSome=true) 0 cnt0 w0:=⟨hrg0,λ k h1 h2=>absurd h1 h2,.inl rfl,⟨xi.os,xi.tape,xi.output,by omega,λ j hj=>xi.block j hj (by simp)⟩⟩;have H0:=zC h0;clear hrg0 MT xi rk h h0
 go_loopg [3] cnt0 (λ gg c wr=>∃ (m:Nat) (Lf:B8->Prop),c=.int .i64 (m:Nat)/\ydw w tb n ps S Lf m gg wr)
 exact⟨0,_,rfl,zA H0⟩
 case round=>
  clear H0;obtain⟨m,Lf,rfl,ax⟩:=hrel;have ph:=ax.rg;have bT:=zC ax;clear ax;go_wp2_with (first | (at_next;refine yak _ rfl _ rfl 9 Tryz.underlying9 tb w.heap.size n (stV ps S) _ gk (λ k=>.agg #[.string k,.int .i64 (S k),.int .i64 ((yY ps k).getD 0:Nat)]) (z8k ps S) rfl ph ?_ ?_) | go_in)
  ·intro dj;have HD:=zC dj;clear dj ph;go_wp2_with fail;go_ret;have ax:=zA bT;exact⟨m,rfl,⟨λ k hk=>ax.lo k (by rw[NB];exact hk) (zA HD k),ax.hi.imp id λ ⟨k,h1,h2⟩=>⟨k,by rw[<-NB ps S];exact h1,h2⟩⟩,ax.k⟩
  ·intro k w1 cnt1 im hVk hrg1 aH iS sk wS;have lX:(stV ps S k).isSome=true:=(by rw[hVk];rfl);have DB:=zA HS k (by rw[<-NB ps S];exact lX);have xy:=zC hrg1;have W9:=zC iS;have XW:=zC lX;have HV1:=zC im;have ax:=zA bT;have dX:=ax.k.size;clear sk ph hrg1 iS hVk lX ax im;have gL:m<=1000001:=by
    rcases (zA bT).hi with h | ⟨j,hj,h⟩
    ·omega
    ·have:=zA HS j (by rw[<-NB ps S];exact hj);omega
   go_wp2_with fail;go_roundg cnt1
   case measure=>omega
   case rel=>
    have ax:=zA bT;have g1:=zA W9;have b1:Below w.heap.size w w1:=⟨g1.os.trans ax.k.os,g1.tape.trans ax.k.tape,g1.output.trans ax.k.output,Nat.le_trans ax.k.size g1.size,λ i hi=>(g1.block i (by omega) (by simp;omega)).trans (ax.k.block i hi)⟩;refine⟨max m (S k+1),_,by congr 1;omega,(zA xy).alloc _,λ x hx hn=>?_,?_,b1.alloc b1.size _⟩
    ·by_cases e:x=k
     ·subst e;omega
     ·have:=ax.lo x hx (λ h=>hn ⟨h,e⟩);omega
    ·rcases Nat.le_total m (S k+1) with h | h
     ·right;exact⟨k,zA XW,by omega⟩
     ·rw[Nat.max_eq_left h];exact ax.hi
end
section
open Go.RowKit Go.Maps
inductive zd9 (rs:List PR)(S:B8->Nat)(limit count:Nat):Nat->List (Th × Nat)->Option (List (Th × Nat))->Prop
 | ends {s:Nat} {K:List (Th × Nat)}:count<=s->zd9 rs S limit count s K (some K)
 | ia {s:Nat} {K:List (Th × Nat)}:s<count->zgw (rs.filter (zc3 S s)) limit 1 K none->zd9 rs S limit count s K none
 | next {s:Nat} {K K':List (Th × Nat)} {r:Option (List (Th × Nat))}:s<count->zgw (rs.filter (zc3 S s)) limit 1 K (some K')->zd9 rs S limit count (s+1) K' r->zd9 rs S limit count s K r
theorem CU.filter {rs:List PR}{TI:Th->Prop}(h:CU rs TI)(f:PR->Bool):CU (rs.filter f) TI:=λ K hK r hr=>h K hK r (List.mem_filter.1 hr).1
structure z9w (w:W8)(kb:Nat)(rs:List PR)(S:B8->Nat)(limit count:Nat)(TI:Th->Prop)(s:Nat)(K:List (Th × Nat))(wr:W8):Prop where
 m:qU wr kb K
 ti:∀ p∈K,TI p.1
 len:K.length<=limit
 k:Below w.heap.size w wr
 rel:∀ r,zd9 rs S limit count s K r->zd9 rs S limit count 0 [] r
def z6j (w:W8)(rs:List PR)(ps:P9)(S:B8->Nat)(limit:Nat)(TI:Th->Prop)(en:Ending)(w':W8):Prop:=
 ∃ m r,zfa ps S m/\zd9 rs S limit m 0 [] r/\Below w.heap.size w w'/\(r=none->en=.returned (.tuple #[.map none,.bool false])) /\
  ∀ K,r=some K->∃ kb,en=.returned (.tuple #[.map (some kb),.bool true])/\w.heap.size<=kb/\qU w' kb K/\K.length<=limit/\∀ p∈K,TI p.1
theorem z7k (w:W8)(base:Nat)(ar:O8)(cr:Nat)(rs:List PR)(tb n:Nat)(ps:P9)(S:B8->Nat)(limit:Nat)(TI:Th->Prop)(h:ig w base (.slice ar rs.length cr) rs)(hb:base<=w.heap.size)(ht:dE Tryz.prog 9 w tb n (stV ps S))(hS:∀ k,(yY ps k).isSome=true->S k<=1000000)(nM:rs.length<=1000)(iU:∀ r∈rs,r.R.pd.size<=800/\(yY ps r.R.pd).isSome=true)(oc:CU rs TI)(hl:limit<=50):
  Calls Tryz.prog 38 #[.slice ar rs.length cr,.map (some tb),.int .i64 (limit:Nat)] w (z6j w rs ps S limit TI):=by
 have H:=zC h;have HT:=zC ht;have Kw:=zC iU;have IG:=zC oc;have rE:=ht.lt;have k0:Below w.heap.size w (w.alloc (.map #[] 0)):=B9.alloc L9 _;have HC:=zC (z1z (w.alloc (.map #[] 0)) tb n ps S (ht.block (k0.block tb rE)) hS);have dr:=zC k0;have np:=@run_makeMap Tryz.prog;have Ia:=zC hS;clear h ht iU oc hS k0;go_enter Tryz.func38,Tryz.ntmps38;go_wp2_with (go_at_call 59;refine (zA HC).mono ?_;rintro en w1 ⟨m,rfl,lJ,aL⟩;have pC:=zC lJ;have gh:=zC aL;clear lJ aL);have KT:Below w.heap.size w w1:=(zA dr).trans ((zA gh).mono (by simp));have dJ:qU w1 w.heap.size []:=(qU.made w).block ((zA gh).block _ (by simp));have H0:=zC (show z9w w w.heap.size rs S limit m TI 0 [] w1 from ⟨dJ,by simp,by simp,KT,λ _ h=>h⟩);have gL:m<=1000001:=by
  rcases (zA pC).2 with h | ⟨j,hj,h⟩
  ·omega
  ·have:=zA Ia j hj;omega
 clear KT dJ np
 go_loopg [13] m (λ gg i wr=>∃ (s:Nat) (K:List (Th × Nat)),s<=m/\gg=m-s/\i=.int .i64 (s:Nat)/\z9w w w.heap.size rs S limit m TI s K wr)
 exact⟨0,[],Nat.zero_le _,rfl,rfl,zA H0⟩
 case round=>
  clear H0;obtain⟨s,K,hs,eA,rfl,ax⟩:=hrel;have bT:=zC ax;clear ax
  by_cases aF:s<m
  ·have ax:=zA bT;have Tx:(s:Int)<m:=(by omega);have aB:ig wr base (.slice ar rs.length cr) rs:=⟨zJ (zA H).row ax.k (λ g e=>((zA H).row.lt g e).2),λ r hr=>⟨zJ ((zA H).each r hr).hd ax.k (λ g e=>(((zA H).each r hr).hd.lt g e).2),((zA H).each r hr).bo.below ax.k,((zA H).each r hr).eq⟩⟩;have HO:=zC (z0x wr base ar cr rs tb n ps S s aB (Nat.le_trans hb ax.k.size) ((zA HT).block (ax.k.block tb rE)) nM (zA Kw));have HM:=zC ax.m;have Jk:=zC (λ (w2:W8) (a:O8) (c:Nat) (aK:Below wr.heap.size wr w2) (ie:ig w2 base (.slice a (rs.filter (zc3 S s)).length c) (rs.filter (zc3 S s)))=>z5f w2 w.heap.size base a c (rs.filter (zc3 S s)) limit TI K ((zA bT).m.block (aK.block _ (zA bT).m.lt)) ie ((zA IG).filter _) (zA bT).ti (zA bT).len hl);clear ax aB;go_wp2_with fail;refine (zA HO).mono ?_;rintro en w2 ⟨a2,c2,rfl,aK,ie⟩;have Ms:=zC (zA Jk w2 a2 c2 aK ie);have ir:=zC aK;clear aK ie Jk;go_wp2_with fail;refine (zA Ms).mono ?_;rintro en w3 ⟨r,Qd,rfl,eE,RY⟩;have Ja:=zC eE;have Nx:=zC Qd;have Xb:=zC RY;have cI:Below w.heap.size w w3:=by
    have ax:=zA bT;have aK:=zA ir;have h2:Below w.heap.size w w2:=ax.k.trans (aK.mono ax.k.size);exact⟨eE.os.trans h2.os,eE.tape.trans h2.tape,eE.output.trans h2.output,Nat.le_trans h2.size eE.size,λ i hi=>(eE.block i (by have:=h2.size;omega) (by simp;omega)).trans (h2.block i hi)⟩
   have BL:=zC cI;clear eE Qd RY cI
   cases hr:r with
   | none=>
    rw[hr] at Nx;go_wp2_with fail
    go_ret2
    exact⟨m,none,zA pC,(zA bT).rel _ (.ia aF (zA Nx)),zA BL,λ _=>rfl,λ K e=>by cases e⟩
   | some K'=>
    obtain⟨fm,vo,ma⟩:=zA Xb K' hr;rw[hr] at Nx;have Bw:=zC fm;have KK:=zC vo;clear fm vo;go_wp2_with fail;go_roundg (m-(s+1));exact⟨s+1,K',by omega,rfl,by go_num,zA Bw,zA KK,ma,zA BL,λ r h=>(zA bT).rel r (.next aF (zA Nx) h)⟩;omega
  ·go_wp2_with fail
   go_ret2
   have ax:=zA bT;exact⟨m,some K,zA pC,ax.rel _ (.ends (by omega)),ax.k,(λ e=>by cases e),λ K2 e=>by cases e;exact⟨_,rfl,Nat.le_refl _,ax.m,ax.len,ax.ti⟩⟩
end
end Go.Proofs.YtldkpahaocjdpaaGreat
