/-
  A thing's text: as its atom is written.
-/
import Derived.Test.YtldkpahaocjdpaaGreatE34
import Derived.Shelf.Sort.Plain
import Derived.Shelf.Slices.In.SortNone
import Derived.Sort.OwnSorted
set_option maxHeartbeats 16000000
set_option maxRecDepth 1000000
namespace Go.Proofs.YtldkpahaocjdpaaGreat
section
open Go.RowKit Go.Maps
attribute [local go_sem ↓] zbb qQ qP qO
attribute [local go_sem] jY jX
theorem z09 (w:W8)(base:Nat)(pd:B8)(a:O8)(c:Nat)(ts:List (Bool × B8))(h:w.ownsRow base 191 1 (.slice a ts.length c) ts.length (xH ts))(hlen:(zau pd ts).length<=1000000000):
  Calls Tryz.prog 102 #[.agg #[.string pd,.slice a ts.length c]] w λ e w'=>e=.returned (.string ⟨(zau pd ts).toArray⟩)/\Below w.heap.size w w':=by
 have b1:=(Below.refl w.heap.size w).alloc L9 (.cells #[.string pd,.slice a ts.length c] 79);have h0:yd (w.heap.size+1) (w.heap.size+1) [] ((w.alloc (.cells #[.string pd,.slice a ts.length c] 79)).alloc (.cells #[.pointer none,.slice none 0 0] 155)):=by
  have:=Lib.fresh_isBuilder 155 5 (w.alloc (.cells #[.string pd,.slice a ts.length c] 79));rw[World.size_alloc] at this;exact this
 have b0:=b1.alloc (by simp) (.cells #[.pointer none,.slice none 0 0] 155);have hr:=zJ h b0 (λ g e=>(h.lt g e).2);have HW:=zC (z5q (w.heap.size+1) (w.heap.size+1) [] pd a c base ts _ h0 hr (by simpa using hlen) (by simp));have ou:=zC b0;clear h h0 b0 b1 hr;go_enter Tryz.func102,Tryz.ntmps102;go_wp2_with (go_at_call 110;refine (zA HW).mono ?_;rintro e w1 ⟨rfl,h1,aL,-,aY⟩);refine (Tryz.Builder_String_any (w.heap.size+1) (w.heap.size+1) _ _ h1 aY).mono ?_;rintro e w2 ⟨rfl,aK⟩;have HB:=zC ((zA ou).trans ((aL.trans aK).mono (by omega)));clear h1 aL aY aK;go_wp2_with fail;go_ret;exact⟨rfl,zA HB⟩
def xB (t:Th):List (Bool × B8):=t.2.map λ x=>(false,x)
def xK (t:Th):B8:=⟨(zau t.1 (xB t)).toArray⟩
structure yd4 (w:W8)(t:Th)(l:List B8)(tv:Value)(wr:W8):Prop where
 th:TV wr w.heap.size t
 at_:wr.heap[w.heap.size+1]?=some (.cells #[.string t.1,tv] 79 (0,0))
 row:wr.ownsRow (w.heap.size+1+1) 191 1 tv l.length (xH (l.map λ x=>(false,x)))
 k:Below w.heap.size w wr
theorem zm3 (s:B8):s.toList.length=s.size:=by rw[ByteArray.toList_eq];exact jI s
theorem yck {w:W8}{t:Th}{l:List B8}{a1 a5:O8}{c1 c5:Nat}{wr w5:W8}{o:Obj}{x:B8}(AV:w.heap.size+1<wr.heap.size)(ay:w5.ownsRow (w.heap.size+1+1) 191 1 (.slice a5 (l.length+1) c5) (l.length+1) (xH (l.map λ x=>(false,x))++[zec false x]))(hg:(wr.alloc o).grownBy w5 (Value.slice a1 l.length c1).ownBlock)(h:yd4 w t l (.slice a1 l.length c1) wr):
  yd4 w t (l++[x]) (.slice a5 (l++[x]).length c5) (w5.setCell ⟨w.heap.size+1,1,none⟩ (.slice a5 (l.length+1) c5))/\w5.heap[w.heap.size+1]?=some (.cells #[.string t.1,.slice a1 l.length c1] 79 (0,0)):=by
 have hb:∀ i,i<=w.heap.size+1->w5.heap[i]?=wr.heap[i]?:=λ i hi=>by
  rw[hg.block i (by simp;omega) (λ e=>by have:=(h.row.lt i e.symm).1;omega),Below.heap_alloc _ _ _ (by omega)]
 have du:=(hb _ L9).trans h.at_;refine⟨⟨?_,?_,?_,?_⟩,du⟩
 ·show _=_
  rw[Below.heap_setCell _ _ _ _ (by simp)];exact (hb _ (by omega)).trans h.th
 ·rw[setCell_eq_setRow w5 _ _ _ _ (0,0) _ du,setRow_heap _ _ _ _ _ _ du];simp
 ·have e1:(l++[x]).length=l.length+1:=by simp
  have e2:xH ((l++[x]).map λ x=>(false,x))=xH (l.map λ x=>(false,x))++[zec false x]:=by simp[xH]
  rw[e1,e2];exact zZ ay (λ g nE=>Below.heap_setCell _ _ _ _ (by have:=(ay.lt g nE).1;simp;omega))
 ·have h5:Below w.heap.size w w5:=⟨hg.os.trans h.k.os,hg.tape.trans h.k.tape,hg.output.trans h.k.output,Nat.le_trans h.k.size (Nat.le_trans (by simp) hg.size),λ i hi=>(hb i (by omega)).trans (h.k.block i hi)⟩;exact h5.setCell (p:=⟨w.heap.size+1,1,none⟩) (by simp) _
theorem zzx (w:W8)(t:Th)(ht:zdu t)(hlen:(zau t.1 (xB t)).length<=1000000000):
  Calls Tryz.prog 63 #[thV t] w λ e w'=>e=.returned (.string (xK t))/\Below w.heap.size w w':=by
 obtain⟨i0,hi,bL,aY,bg⟩:=info_parts zrm;obtain⟨ct,lL⟩:∃ ct,ct=(zV t).toArray:=⟨_,rfl⟩;have pw:=zC lL;unfold thV;rw[<-lL];clear lL;have HT:=zC ht;clear ht;have c0:(w.alloc (.cells ct 88)).cell? ⟨w.heap.size,0,none⟩=some (.string t.1):=by
  rw[(zB (heap_alloc_new w (.cells ct 88)) 0).1,zA pw];rfl
 go_enter Tryz.func63,Tryz.ntmps63;go_upto_region 2 with fail;generalize bC:World.alloc (World.alloc w _) _=w0;have h0:yd4 w t [] (.slice none 0 0) w0:=by
  have k0:Below w.heap.size w ((w.alloc (.cells ct 88)).alloc (.cells #[.string t.1,.slice none 0 0] 79)):=(B9.alloc L9 _).alloc (by simp) _;rw[<-bC];refine⟨?_,?_,World.ownsRow_nil _ _ _ _,k0⟩
  ·show _=_
   rw[Below.heap_alloc _ _ _ (by simp),<-zA pw];exact heap_alloc_new w _
  ·have:=heap_alloc_new (w.alloc (.cells ct 88)) (.cells #[.string t.1,.slice none 0 0] 79);rw[World.size_alloc] at this;exact this
 have H0:=zC h0;have xr:w.heap.size+1<w0.heap.size:=(Array.getElem?_eq_some_iff.1 h0.at_).1;clear bC c0 h0;go_wp2_with fail
 go_loopg [11] 4 (λ gg i wr=>∃ (k:Nat) (l:List B8) (tv:Value),k<=4/\gg=4-k/\i=.int .i64 (k:Nat)/\l=t.2.take k/\yd4 w t l tv wr)
 exact⟨0,[],_,by omega,rfl,rfl,rfl,zA H0⟩
 case round=>
  clear H0;obtain⟨k,l,tv,hk,eD,rfl,hl,ax⟩:=hrel;obtain⟨a1,ei,rfl⟩:=zD ax.row;have AV:w.heap.size+1<wr.heap.size:=(Array.getElem?_eq_some_iff.1 ax.at_).1;have bT:=zC ax;have hZ:l.length<=4:=by rw[hl];simp;omega
  have HL:=zC hl;obtain⟨q0,z0⟩:=zB ax.at_ 0;obtain⟨q1,z1⟩:=zB ax.at_ 1;simp only[List.getElem?_toArray,List.getElem?_cons_zero,List.getElem?_cons_succ] at q0 q1
  by_cases aF:k<4
  ·have cd:wr.cell? ⟨w.heap.size,1+k,none⟩=some (.string (xW t.2 k)):=by
    rw[(zB ax.th (1+k)).1,List.getElem?_toArray];exact zdg t aF
   have nu:(k:Int)<4:=(by omega);clear ax hl
   by_cases aH:k<t.2.length
   ·have bF:((xW t.2 k).toList==[])=false:=by
     have pF:0<(xW t.2 k).size:=zpu (zA HT) aH
     cases hq:(xW t.2 k).toList==[] with
     | false=>rfl
     | true=>rw[beq_iff_eq] at hq;have h2:=zm3 (xW t.2 k);rw[hq] at h2;simp at h2;omega
    have aB:=(zA bT).row;have MA:=zC (show t.2.take (k+1)=l++[xW t.2 k] by rw[List.take_succ_eq_append_getElem aH,zA HL];congr 2;unfold xW;rw[List.getElem?_eq_getElem aH];rfl);go_wp2_with (at_builtin;refine wpList_append_own _ rfl _ _ 77 rfl (w.heap.size+1+1) 191 i0 _ 1 16 Tryz.underlying77 hi bL aY bg rfl (by decide) _ _ _ rfl (aB.alloc _) ⟨wr.heap.size,0,none⟩ 1 1 [zec false (xW t.2 k)] rfl rfl (zuw wr _) (z4m _ _) (by unfold maxLen;omega) (by omega) (by simp;omega) ?_;intro v5 w5 aq aU hne5;clear hne5;obtain⟨a5,eH,rfl⟩:=zD aq;obtain⟨r1,r2⟩:=yck AV aq aU (zA bT);obtain⟨y1,x1⟩:=zB r2 1;simp only[List.getElem?_toArray,List.getElem?_cons_zero,List.getElem?_cons_succ] at y1;have H5:=zC r1;have H6:=zC r2;clear aq aU r1 r2);go_roundg (4-(k+1));exact⟨k+1,l++[xW t.2 k],_,by omega,rfl,by go_num,(zA MA).symm,(zA H5)⟩;omega
   ·have bF:((xW t.2 k).toList==[])=true:=by
     have h2:=zm3 (xW t.2 k);rw[zl9 (l:=t.2) (i:=k) (by omega)] at h2;rw[beq_iff_eq];exact List.length_eq_zero_iff.1 h2
    go_wp2_with fail;go_roundg (4-(k+1));exact⟨k+1,l,_,by omega,rfl,by go_num,by rw[zA HL,List.take_of_length_le (by omega),List.take_of_length_le (by omega)],zA bT⟩;omega
  ·have aH:l=t.2:=(by rw[hl,List.take_of_length_le];have hfw:t.2.length<=4:=(zA HT).eJ;omega);have aB:=ax.row;have HC:=zC (z09 wr (w.heap.size+1+1) t.1 a1 ei (xB t) (by unfold xB;rw[List.length_map,<-aH];exact aB) hlen);have nV:(xB t).length=l.length:=(by unfold xB;rw[List.length_map,aH]);rw[nV] at HC;have HK:=zC ax.k;clear ax hl aB aH nV;go_wp2_with (go_at_call 102;refine (zA HC).mono ?_;rintro e w2 ⟨rfl,aK⟩;have ir:=zC aK;clear aK);go_ret;exact⟨rfl,(zA HK).trans ((zA ir).mono (zA HK).size)⟩
end
section
open Go.RowKit Go.Maps
attribute [local go_sem ↓] zcf zba zc1 j2 zbb qQ qP qO
attribute [local go_sem] qS zbo jY jX
theorem zpt {L:List (Th × Nat)}(h:(L.map (·.1)).Nodup):L.Nodup:=by
 induction L with
 | nil=>simp
 | cons x r ih=>
  rw[List.map_cons,List.nodup_cons] at h;exact List.nodup_cons.2 ⟨λ hm=>h.1 (List.mem_map_of_mem hm),ih h.2⟩
end
section
open Go.RowKit Go.Maps
def zc2 (S:B8->Nat)(s:Nat)(r:PR):Bool:=S r.R.pd==s
structure EV (w:W8)(base:Nat)(rv:Value)(rs:List PR)(tb n:Nat)(ps:P9)(S:B8->Nat)(l:List PR)(v:Value)(wr:W8):Prop where
 row:wr.ownsRow w.heap.size 123 3 v l.length (l.flatMap PR.cells)
 below:Below w.heap.size w wr
variable {wr w:W8} {v rv:Value} {l rs:List PR} {S:B8->Nat} {ps:P9} {tb n base:Nat}
theorem EV.alloc (h:EV w base rv rs tb n ps S l v wr)(o:Obj):EV w base rv rs tb n ps S l v (wr.alloc o):=⟨h.row.alloc o,h.below.alloc h.below.size _⟩
theorem EV.append {v':Value}{w5:W8}(h:EV w base rv rs tb n ps S l v wr){r:PR}(ay:w5.ownsRow w.heap.size 123 3 v' (l.length+1) (l.flatMap PR.cells++r.cells))(hg:wr.grownBy w5 v.ownBlock):EV w base rv rs tb n ps S (l++[r]) v' w5:=by
 have hs:=h.below.size;have hb:∀ g,g<w.heap.size->w5.heap[g]?=wr.heap[g]?:=λ g nE=>hg.block g (by omega) (λ e=>by have:=(h.row.lt g e.symm).1;omega)
 refine⟨?_,h.below.trans ⟨hg.os,hg.tape,hg.output,hg.size,hb⟩⟩;simpa using ay
def ycz (w:W8)(base:Nat)(rs:List PR)(S:B8->Nat)(s:Nat)(en:Ending)(w':W8):Prop:=
 ∃ a c,en=.returned (.slice a (rs.filter (zc2 S s)).length c)/\Below w.heap.size w w'/\iq w' base (.slice a (rs.filter (zc2 S s)).length c) (rs.filter (zc2 S s))
theorem z3w (w:W8)(base:Nat)(ar:O8)(cr:Nat)(rs:List PR)(tb n:Nat)(ps:P9)(S:B8->Nat)(s:Nat)(h:iq w base (.slice ar rs.length cr) rs)(hb:base<=w.heap.size)(ht:dE Tryz.prog 9 w tb n (stV ps S))(hl:rs.length<=1000)(jk:∀ r∈rs,r.R.pd.size<=800/\(yX ps r.R.pd).isSome=true):
  Calls Tryz.prog 61 #[.slice ar rs.length cr,.map (some tb),.int .i64 (s:Nat)] w (ycz w base rs S s):=by
 obtain⟨i0,hi,bL,aY,bg⟩:=info_parts zrl;have H:=zC h;have HT:=zC ht;have Jn:=zC jk;have h0:EV w base (.slice ar rs.length cr) rs tb n ps S [] (.slice none 0 0) w:=⟨World.ownsRow_nil _ _ _ _,Below.refl _ _⟩;have H0:=zC h0;have rk:=ht.lt;clear h ht jk h0;have KI:=zpd;go_enter Tryz.func61,Tryz.ntmps61;go_wp2_with fail
 go_loopg [7,12] rs.length (λ gg v i wr=>∃ k:Nat,k<=rs.length/\gg=rs.length-k/\i=.int .i64 k/\EV w base (.slice ar rs.length cr) rs tb n ps S ((rs.take k).filter (zc2 S s)) v wr)
 exact⟨0,Nat.zero_le _,rfl,rfl,zA H0⟩
 case round=>
  clear H0;obtain⟨k,hk,eD,rfl,hinv⟩:=hrel;obtain⟨a1,ei,rfl⟩:=zD hinv.row
  by_cases aF:k<rs.length
  ·obtain⟨r,ny⟩:∃ r,r=rs[k]:=⟨_,rfl⟩;have cg:r∈rs:=(by rw[ny];exact List.getElem_mem aF);have ax:=(zA H).each r cg;obtain⟨ah,ch,sJ⟩:=zD ax.hd;obtain⟨ab,cb,sI⟩:=zD ax.bo.row;obtain⟨g,cap,hv,iF,aZ,bO,bQ,hc⟩:=vX zut (zA H).row k aF;injection hv with h1 h2 h3
   subst h1 h3;have eo:=hinv.below;have e0:wr.cell? ⟨g,k*3,none⟩=some (.string r.R.pd):=(by rw[ny];exact (eo.cell (p:=⟨g,k*3,none⟩) aZ).trans (hc 0 (by omega)));have e1:wr.cell? ⟨g,k*3+1,none⟩=some (.slice ah r.R.ts.length ch):=(by rw[<-sJ,ny];exact (eo.cell (p:=⟨g,k*3+1,none⟩) aZ).trans (hc 1 (by omega)));have e2:wr.cell? ⟨g,k*3+2,none⟩=some (.slice ab r.bs.length cb):=(by rw[<-sI,ny];exact (eo.cell (p:=⟨g,k*3+2,none⟩) aZ).trans (hc 2 (by omega)));have nu:(k:Int)<rs.length:=(by omega);have hI:=hinv.alloc (.cells #[.string r.R.pd,.slice ah r.R.ts.length ch,.slice ab r.bs.length cb] 123);have Ce:dE Tryz.prog 9 (wr.alloc (.cells #[.string r.R.pd,.slice ah r.R.ts.length ch,.slice ab r.bs.length cb] 123)) tb n (stV ps S):=(zA HT).block (hI.below.block tb rk);obtain⟨ft,pF⟩:=zA Jn r cg;have dF:r.R.pd.size<=maxLen:=(by unfold maxLen;omega);obtain⟨m,hm⟩:=Option.isSome_iff_exists.1 pF;have hu:(stV ps S r.R.pd).getD (.agg #[.string { data:=#[] },.int .i64 0,.int .i64 0])=.agg #[.string r.R.pd,.int .i64 (S r.R.pd),.int .i64 m]:=(by unfold stV;rw[hm];rfl);have ko:((rs.take k).filter (zc2 S s)).length<=1000:=Nat.le_trans (List.length_filter_le _ _) (by simp;omega);have Nv:r=⟨r.R,.slice ah r.R.ts.length ch,r.bs,.slice ab r.bs.length cb⟩:=(by rw[<-sJ,<-sI]);have W0:=zC Nv;have oy:=zC (zhp (f:=zc2 S s) aF);have wZ:=zC ny;have AV:=hinv.below.size;clear hc hinv ax ny cg eo h2 pF hm sJ sI Nv
   cases hq:zc2 S s r with
   | true=>
    have QO:(S r.R.pd:Int)=s:=(by have:S r.R.pd=s:=(by simpa[zc2] using hq);omega);have HQ:=zC hq;have bH:=(hI.alloc (.cells #[.string r.R.pd,.slice ah r.R.ts.length ch,.slice ab r.bs.length cb] 123)).row;have HI:=zC (hI.alloc (.cells #[.string r.R.pd,.slice ah r.R.ts.length ch,.slice ab r.bs.length cb] 123));clear hI hq
    go_wp2_with (first
     | (at_lookup;refine zfw _ rfl _ _ 73 rfl 9 185 Tryz.underlying9 Tryz.underlying73 (Tryz.zeroValue185 _) tb n (stV ps S) rfl Ce r.R.pd rfl dF _ hu ?_)
     | (at_builtin;refine wpList_append_own _ rfl _ _ 75 rfl w.heap.size 123 i0 _ 3 64 Tryz.underlying75 hi bL aY bg rfl (by decide) _ _ _ rfl bH ⟨wr.heap.size+1,0,none⟩ 1 1 (PR.mk r.R (.slice ah r.R.ts.length ch) r.bs (.slice ab r.bs.length cb)).cells rfl rfl (z4j wr _ (PR.mk r.R (.slice ah r.R.ts.length ch) r.bs (.slice ab r.bs.length cb))) (z9z _ _ _ _ _ _ _ _) (by unfold maxLen;omega) (by omega) (by simp;omega) ?_;intro v5 w5 aq aU hne5;clear hne5;obtain⟨a5,eH,rfl⟩:=zD aq;have ym:=zC ((zA HI).append aq aU);clear aq aU))
    go_roundg (rs.length-(k+1))
    case measure=>omega
    case rel=>
     refine⟨k+1,by omega,rfl,by go_num,?_⟩;rw[zA oy,<-zA wZ,zA HQ,if_pos rfl,zA W0];exact zA ym
   | false=>
    have QO:¬ ((S r.R.pd:Int)=s):=(by have:S r.R.pd≠s:=(by simpa[zc2] using hq);omega);have HQ:=zC hq;have HI:=zC hI;clear hI hq;go_wp2_with (at_lookup;refine zfw _ rfl _ _ 73 rfl 9 185 Tryz.underlying9 Tryz.underlying73 (Tryz.zeroValue185 _) tb n (stV ps S) rfl Ce r.R.pd rfl dF _ hu ?_);go_roundg (rs.length-(k+1))
    case measure=>omega
    case rel=>
     refine⟨k+1,by omega,rfl,by go_num,?_⟩;rw[zA oy,<-zA wZ,zA HQ,if_neg (by decide),List.append_nil];exact zA HI
  ·have e:(rs.take k).filter (zc2 S s)=rs.filter (zc2 S s):=(by rw[List.take_of_length_le (by omega)]);rw[e] at hinv ⊢;have HI:=zC hinv;clear hinv;go_wp2_with fail;go_ret;have hI:=zA HI
   exact⟨_,_,rfl,hI.below,⟨zG hI.row hb,λ r hr=>by
    have ax:=(zA H).each r (List.mem_filter.1 hr).1
    exact⟨zJ ax.hd hI.below (λ g e=>(ax.hd.lt g e).2),ax.bo.below hI.below,ax.eq⟩⟩⟩
end
section
open Go.RowKit Go.Maps
structure ycx (w:W8)(tb n:Nat)(ps:P9)(S:B8->Nat)(Lf:B8->Prop)(m eC:Nat)(wr:W8):Prop where
 rg:Hm Tryz.prog 9 wr tb w.heap.size n (stV ps S) Lf eC
 lo:∀ k,(stV ps S k).isSome=true->¬ Lf k->S k+1<=m
 hi:m=0\/∃ k,(stV ps S k).isSome=true/\m=S k+1
 k:Below w.heap.size w wr
def ze6 (ps:P9)(S:B8->Nat)(m:Nat):Prop:=(∀ k,(yX ps k).isSome=true->S k+1<=m)/\(m=0\/∃ k,(yX ps k).isSome=true/\m=S k+1)
theorem N0 (ps:P9)(S:B8->Nat)(k:B8):(stV ps S k).isSome=(yX ps k).isSome:=by unfold stV;cases yX ps k <;> rfl
theorem z1v (w:W8)(tb n:Nat)(ps:P9)(S:B8->Nat)(h:dE Tryz.prog 9 w tb n (stV ps S))(hS:∀ k,(yX ps k).isSome=true->S k<=1000000):
  Calls Tryz.prog 59 #[.map (some tb)] w λ en w'=>∃ m:Nat,en=.returned (.int .i64 (m:Nat))/\ze6 ps S m/\Below w.heap.size w w':=by
 have HS:=zC hS;have rk:=h.lt;clear hS;go_enter Tryz.func59,Tryz.ntmps59;go_wp2_with (first | (at_range;refine z87 _ rfl _ 73 rfl 9 185 Tryz.underlying9 Tryz.underlying73 tb n (stV ps S) rfl h ?_;intro w0 cnt0 hrg0 M7 xi ri) | go_in)
 try go_frame
 have h0:ycx w tb n ps S (λ k=>(stV ps S k).isSome=true) 0 cnt0 w0:=⟨hrg0,λ k h1 h2=>absurd h1 h2,.inl rfl,⟨xi.os,xi.tape,xi.output,by omega,λ j hj=>xi.block j hj (by simp)⟩⟩;have H0:=zC h0;clear hrg0 M7 xi ri h h0
 go_loopg [3] cnt0 (λ gg c wr=>∃ (m:Nat) (Lf:B8->Prop),c=.int .i64 (m:Nat)/\ycx w tb n ps S Lf m gg wr)
 exact⟨0,_,rfl,zA H0⟩
 case round=>
  clear H0;obtain⟨m,Lf,rfl,ax⟩:=hrel;have oL:=ax.rg;have bT:=zC ax;clear ax;go_wp2_with (first | (at_next;refine yco _ rfl _ rfl 9 Tryz.underlying9 tb w.heap.size n (stV ps S) _ gk (λ k=>.agg #[.string k,.int .i64 (S k),.int .i64 ((yX ps k).getD 0:Nat)]) (z8q ps S) rfl oL ?_ ?_) | go_in)
  ·intro dj;have HD:=zC dj;clear dj oL;go_wp2_with fail;go_ret;have ax:=zA bT;exact⟨m,rfl,⟨λ k hk=>ax.lo k (by rw[N0];exact hk) (zA HD k),ax.hi.imp id λ ⟨k,h1,h2⟩=>⟨k,by rw[<-N0 ps S];exact h1,h2⟩⟩,ax.k⟩
  ·intro k w1 cnt1 im hVk hrg1 aH jg sg xh;have mi:(stV ps S k).isSome=true:=(by rw[hVk];rfl);have Da:=zA HS k (by rw[<-N0 ps S];exact mi);have wY:=zC hrg1;have VR:=zC jg;have WH:=zC mi;have HV1:=zC im;have ax:=zA bT;have dY:=ax.k.size;clear sg oL hrg1 jg hVk mi ax im;have gR:m<=1000001:=by
    rcases (zA bT).hi with h | ⟨j,hj,h⟩
    ·omega
    ·have:=zA HS j (by rw[<-N0 ps S];exact hj);omega
   go_wp2_with fail;go_roundg cnt1
   case measure=>omega
   case rel=>
    have ax:=zA bT;have g1:=zA VR;have b1:Below w.heap.size w w1:=⟨g1.os.trans ax.k.os,g1.tape.trans ax.k.tape,g1.output.trans ax.k.output,Nat.le_trans ax.k.size g1.size,λ i hi=>(g1.block i (by omega) (by simp;omega)).trans (ax.k.block i hi)⟩;refine⟨max m (S k+1),_,by congr 1;omega,(zA wY).alloc _,λ x hx hn=>?_,?_,b1.alloc b1.size _⟩
    ·by_cases e:x=k
     ·subst e;omega
     ·have:=ax.lo x hx (λ h=>hn ⟨h,e⟩);omega
    ·rcases Nat.le_total m (S k+1) with h | h
     ·right;exact⟨k,zA WH,by omega⟩
     ·rw[Nat.max_eq_left h];exact ax.hi
end
section
open Go.RowKit Go.Maps
inductive zdx (rs:List PR)(S:B8->Nat)(limit count:Nat):Nat->List (Th × Nat)->Option (List (Th × Nat))->Prop
 | ends {s:Nat} {K:List (Th × Nat)}:count<=s->zdx rs S limit count s K (some K)
 | gX {s:Nat} {K:List (Th × Nat)}:s<count->zgn (rs.filter (zc2 S s)) limit 1 K none->zdx rs S limit count s K none
 | next {s:Nat} {K K':List (Th × Nat)} {r:Option (List (Th × Nat))}:s<count->zgn (rs.filter (zc2 S s)) limit 1 K (some K')->zdx rs S limit count (s+1) K' r->zdx rs S limit count s K r
theorem DP.filter {rs:List PR}{TI:Th->Prop}(h:DP rs TI)(f:PR->Bool):DP (rs.filter f) TI:=λ K hK r hr=>h K hK r (List.mem_filter.1 hr).1
structure z9b (w:W8)(kb:Nat)(rs:List PR)(S:B8->Nat)(limit count:Nat)(TI:Th->Prop)(s:Nat)(K:List (Th × Nat))(wr:W8):Prop where
 m:qR wr kb K
 ti:∀ p∈K,TI p.1
 len:K.length<=limit
 k:Below w.heap.size w wr
 rel:∀ r,zdx rs S limit count s K r->zdx rs S limit count 0 [] r
def z6a (w:W8)(rs:List PR)(ps:P9)(S:B8->Nat)(limit:Nat)(TI:Th->Prop)(en:Ending)(w':W8):Prop:=
 ∃ m r,ze6 ps S m/\zdx rs S limit m 0 [] r/\Below w.heap.size w w'/\(r=none->en=.returned (.tuple #[.map none,.bool false])) /\
  ∀ K,r=some K->∃ kb,en=.returned (.tuple #[.map (some kb),.bool true])/\w.heap.size<=kb/\qR w' kb K/\K.length<=limit/\∀ p∈K,TI p.1
theorem z64 (w:W8)(base:Nat)(ar:O8)(cr:Nat)(rs:List PR)(tb n:Nat)(ps:P9)(S:B8->Nat)(limit:Nat)(TI:Th->Prop)(h:iq w base (.slice ar rs.length cr) rs)(hb:base<=w.heap.size)(ht:dE Tryz.prog 9 w tb n (stV ps S))(hS:∀ k,(yX ps k).isSome=true->S k<=1000000)(nH:rs.length<=1000)(jk:∀ r∈rs,r.R.pd.size<=800/\(yX ps r.R.pd).isSome=true)(nT:DP rs TI)(hl:limit<=50):
  Calls Tryz.prog 38 #[.slice ar rs.length cr,.map (some tb),.int .i64 (limit:Nat)] w (z6a w rs ps S limit TI):=by
 have H:=zC h;have HT:=zC ht;have Jn:=zC jk;have Hq:=zC nT;have rk:=ht.lt;have k0:Below w.heap.size w (w.alloc (.map #[] 0)):=B9.alloc L9 _;have HC:=zC (z1v (w.alloc (.map #[] 0)) tb n ps S (ht.block (k0.block tb rk)) hS);have dr:=zC k0;have nx:=@run_makeMap Tryz.prog;have Hw:=zC hS;clear h ht jk nT hS k0;go_enter Tryz.func38,Tryz.ntmps38;go_wp2_with (go_at_call 59;refine (zA HC).mono ?_;rintro en w1 ⟨m,rfl,lL,aL⟩;have pw:=zC lL;have fN:=zC aL;clear lL aL);have Kt:Below w.heap.size w w1:=(zA dr).trans ((zA fN).mono (by simp));have dH:qR w1 w.heap.size []:=(qR.made w).block ((zA fN).block _ (by simp));have H0:=zC (show z9b w w.heap.size rs S limit m TI 0 [] w1 from ⟨dH,by simp,by simp,Kt,λ _ h=>h⟩);have gR:m<=1000001:=by
  rcases (zA pw).2 with h | ⟨j,hj,h⟩
  ·omega
  ·have:=zA Hw j hj;omega
 clear Kt dH nx
 go_loopg [13] m (λ gg i wr=>∃ (s:Nat) (K:List (Th × Nat)),s<=m/\gg=m-s/\i=.int .i64 (s:Nat)/\z9b w w.heap.size rs S limit m TI s K wr)
 exact⟨0,[],Nat.zero_le _,rfl,rfl,zA H0⟩
 case round=>
  clear H0;obtain⟨s,K,hs,eD,rfl,ax⟩:=hrel;have bT:=zC ax;clear ax
  by_cases aF:s<m
  ·have ax:=zA bT;have Ur:(s:Int)<m:=(by omega);have aB:iq wr base (.slice ar rs.length cr) rs:=⟨zJ (zA H).row ax.k (λ g e=>((zA H).row.lt g e).2),λ r hr=>⟨zJ ((zA H).each r hr).hd ax.k (λ g e=>(((zA H).each r hr).hd.lt g e).2),((zA H).each r hr).bo.below ax.k,((zA H).each r hr).eq⟩⟩;have HO:=zC (z3w wr base ar cr rs tb n ps S s aB (Nat.le_trans hb ax.k.size) ((zA HT).block (ax.k.block tb rk)) nH (zA Jn));have HM:=zC ax.m;have I6:=zC (λ (w2:W8) (a:O8) (c:Nat) (aK:Below wr.heap.size wr w2) (ik:iq w2 base (.slice a (rs.filter (zc2 S s)).length c) (rs.filter (zc2 S s)))=>z1q w2 w.heap.size base a c (rs.filter (zc2 S s)) limit TI K ((zA bT).m.block (aK.block _ (zA bT).m.lt)) ik ((zA Hq).filter _) (zA bT).ti (zA bT).len hl);clear ax aB;go_wp2_with fail;refine (zA HO).mono ?_;rintro en w2 ⟨a2,c2,rfl,aK,ik⟩;have Mr:=zC (zA I6 w2 a2 c2 aK ik);have ir:=zC aK;clear aK ik I6;go_wp2_with fail;refine (zA Mr).mono ?_;rintro en w3 ⟨r,QJ,rfl,eE,Td⟩;have Je:=zC eE;have MF:=zC QJ;have VV:=zC Td;have cI:Below w.heap.size w w3:=by
    have ax:=zA bT;have aK:=zA ir;have h2:Below w.heap.size w w2:=ax.k.trans (aK.mono ax.k.size);exact⟨eE.os.trans h2.os,eE.tape.trans h2.tape,eE.output.trans h2.output,Nat.le_trans h2.size eE.size,λ i hi=>(eE.block i (by have:=h2.size;omega) (by simp;omega)).trans (h2.block i hi)⟩
   have yg:=zC cI;clear eE QJ Td cI
   cases hr:r with
   | none=>
    rw[hr] at MF;go_wp2_with fail
    go_ret2
    exact⟨m,none,zA pw,(zA bT).rel _ (.gX aF (zA MF)),zA yg,λ _=>rfl,λ K e=>by cases e⟩
   | some K'=>
    obtain⟨fq,vq,mf⟩:=zA VV K' hr;rw[hr] at MF;have yn:=zC fq;have Jt:=zC vq;clear fq vq;go_wp2_with fail;go_roundg (m-(s+1));exact⟨s+1,K',by omega,rfl,by go_num,zA yn,zA Jt,mf,zA yg,λ r h=>(zA bT).rel r (.next aF (zA MF) h)⟩;omega
  ·go_wp2_with fail
   go_ret2
   have ax:=zA bT;exact⟨m,some K,zA pw,ax.rel _ (.ends (by omega)),ax.k,(λ e=>by cases e),λ K2 e=>by cases e;exact⟨_,rfl,Nat.le_refl _,ax.m,ax.len,ax.ti⟩⟩
end
end Go.Proofs.YtldkpahaocjdpaaGreat
