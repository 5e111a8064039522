/-
  Plain: what hangs on what, by the links; a search's stack and what it has met.
-/
import Derived.Test.YtldkpahaocjdpaaGreatS16
set_option maxHeartbeats 16000000
set_option maxRecDepth 1000000
namespace Go.Proofs.YtldkpahaocjdpaaGreat
section
open Go.RowKit Go.Maps
inductive Reach (E:List Edge):B8->B8->Prop where
 | one {a b:B8} (h:(a,b)∈E):Reach E a b
 | next {a b c:B8} (t:Reach E a b) (h:(b,c)∈E):Reach E a c
open Classical in
noncomputable def hangsP (E:List Edge)(p q:B8):Bool:=decide (Reach E p q)
variable {p x:B8} {E:List Edge}
theorem mem_tgt:x∈tgt E p↔(p,x)∈E:=by
 unfold tgt
 constructor
 ·intro h;obtain⟨e,he,rfl⟩:=List.mem_map.1 h;obtain⟨h1,h2⟩:=List.mem_filter.1 he;have:e.1=p:=aN.1 h2;rw[<-this];exact h1
 ·intro h;exact List.mem_map.2 ⟨(p,x),List.mem_filter.2 ⟨h,by simp⟩,rfl⟩
def isMet (met:List B8)(x:B8):Bool:=met.any λ m=>m.toList==x.toList
variable {met:List B8}
theorem bW:isMet met x=true↔x∈met:=by
 unfold isMet;rw[List.any_eq_true]
 constructor
 ·rintro⟨m,hm,h⟩;rw[<-aN.1 h];exact hm
 ·intro h;exact⟨x,h,by simp⟩
def metV (met:List B8):B8->Option Value:=λ k=>if isMet met k then some (.agg #[]) else none
theorem metV_put (met:List B8)(x:B8):updV (metV met) x (.agg #[])=metV (met++[x]):=by
 funext k
 by_cases e:k=x
 ·subst e;rw[updV_same];unfold metV;rw[if_pos (bW.2 (by simp))]
 ·rw[updV_other e];unfold metV
  by_cases h:isMet met k=true
  ·rw[if_pos h,if_pos (bW.2 (by have:=bW.1 h;simp[this]))]
  ·rw[if_neg h,if_neg (λ h2=>by
    have:=bW.1 h2;simp at this;rcases this with h3 | h3
    ·exact h (bW.2 h3)
    ·exact e h3)]
def dP (E:List Edge)(met:List B8):Nat:=(E.filter λ e=>!isMet met e.2).length
theorem cnt_mono (met:List B8)(x:B8):∀ (l:List Edge),(l.filter λ e=>!isMet (met++[x]) e.2).length<=(l.filter λ e=>!isMet met e.2).length
 | []=>Nat.le_refl _
 | e::r=>by
  have ih:=cnt_mono met x r;have mono:isMet met e.2=true->isMet (met++[x]) e.2=true:=λ h=>bW.2 (by have:=bW.1 h;simp[this])
  simp only[List.filter_cons]
  cases h2:isMet met e.2 with
  | true=>rw[mono h2];simpa using ih
  | false=>
   cases h3:isMet (met++[x]) e.2 with
   | true=>simp;omega
   | false=>simp;omega
theorem cnt_less {met:List B8}{x y:B8}(hn:isMet met x=false):∀ (l:List Edge),(y,x)∈l->(l.filter λ e=>!isMet (met++[x]) e.2).length+1<=(l.filter λ e=>!isMet met e.2).length
 | [],h=>by cases h
 | e::r,h=>by
  have mono:isMet met e.2=true->isMet (met++[x]) e.2=true:=λ h=>bW.2 (by have:=bW.1 h;simp[this])
  have h1:isMet (met++[x]) x=true:=bW.2 (by simp);simp only[List.filter_cons];rcases List.mem_cons.1 h with he | hr
  ·have:=cnt_mono met x r;subst he;simp only[h1,hn,Bool.not_true,Bool.not_false,Bool.false_eq_true,if_false,if_true,List.length_cons];omega
  ·have ih:=cnt_less hn r hr
   cases h2:isMet met e.2 with
   | true=>rw[mono h2];simpa using ih
   | false=>
    cases h3:isMet (met++[x]) e.2 with
    | true=>simp;omega
    | false=>simp;omega
theorem cnt_put {y:B8}(h:(y,x)∈E)(hn:isMet met x=false):dP E (met++[x])+1<=dP E met:=cnt_less hn E h
structure lG (E:List Edge)(p q:B8)(st met:List B8)(now:Option B8):Prop where
 onStack:∀ x∈st,x=p\/Reach E p x
 tF:∀ x∈met,Reach E p x
 done:∀ y,(y=p\/y∈met)->y∈st\/now=some y\/∀ z∈tgt E y,z≠q/\z∈met
theorem lG.start (E:List Edge)(p q:B8):lG E p q [p] [] none:=
 ⟨λ x hx=>.inl (by simpa using hx),λ x hx=>(by cases hx),λ y hy=>.inl (by rcases hy with rfl | h;simp;cases h)⟩
variable {st:List B8} {q:B8}
theorem lG.pop (h:lG E p q (st++[x]) met none):lG E p q st met (some x)/\(x=p\/Reach E p x):=by
 refine⟨⟨λ y hy=>h.onStack y (by simp[hy]),h.tF,λ y hy=>?_⟩,h.onStack x (by simp)⟩;rcases h.done y hy with h1 | h1 | h1
 ·simp at h1;rcases h1 with h1 | h1
  ·exact .inl h1
  ·exact .inr (.inl (by rw[h1]))
 ·cases h1
 ·exact .inr (.inr h1)
variable {z:B8}
theorem reach_next (h:x=p\/Reach E p x)(hz:z∈tgt E x):Reach E p z:=by
 rcases h with rfl | h
 ·exact .one (mem_tgt.1 hz)
 ·exact .next h (mem_tgt.1 hz)
theorem lG.push (h:lG E p q st met (some x))(hx:x=p\/Reach E p x)(hz:z∈tgt E x):lG E p q (st++[z]) (met++[z]) (some x):=by
 have hr:=reach_next hx hz;refine⟨λ y hy=>?_,λ y hy=>?_,λ y hy=>?_⟩
 ·rcases List.mem_append.1 hy with hy | hy
  ·exact h.onStack y hy
  ·simp at hy;subst hy;exact .inr hr
 ·rcases List.mem_append.1 hy with hy | hy
  ·exact h.tF y hy
  ·simp at hy;subst hy;exact hr
 ·have vU:(y=p\/y∈met)\/y=z:=by
   rcases hy with hy | hy
   ·exact .inl (.inl hy)
   ·rcases List.mem_append.1 hy with hy | hy
    ·exact .inl (.inr hy)
    ·exact .inr (by simpa using hy)
  rcases vU with hy | rfl
  ·rcases h.done y hy with h1 | h1 | h1
   ·exact .inl (by simp[h1])
   ·exact .inr (.inl h1)
   ·exact .inr (.inr λ u hu=>⟨(h1 u hu).1,by simp[(h1 u hu).2]⟩)
  ·exact .inl (by simp)
theorem lG.drop (h:lG E p q st met (some x))(hd:∀ z∈tgt E x,z≠q/\z∈met):lG E p q st met none:=by
 refine⟨h.onStack,h.tF,λ y hy=>?_⟩;rcases h.done y hy with h1 | h1 | h1
 ·exact .inl h1
 ·injection h1 with h1;subst h1;exact .inr (.inr hd)
 ·exact .inr (.inr h1)
theorem lG.ends (h:lG E p q [] met none):hangsP E p q=false:=by
 have key:∀ x,Reach E p x->x≠q/\x∈met:=by
  intro x hx;have step:∀ y,(y=p\/y∈met)->∀ z,(y,z)∈E->z≠q/\z∈met:=λ y hy z hz=>by
   rcases h.done y hy with h1 | h1 | h1
   ·cases h1
   ·cases h1
   ·exact h1 z (mem_tgt.2 hz)
  induction hx with
  | one h1=>exact step p (.inl rfl) _ h1
  | next t h1 ih=>exact step _ (.inr (ih).2) _ h1
 unfold hangsP;simp only[decide_eq_false_iff_not];exact λ hr=>(key q hr).1 rfl
theorem hangs_yes (h:x=p\/Reach E p x)(hq:q∈tgt E x):hangsP E p q=true:=by
 unfold hangsP;simp only[decide_eq_true_eq];exact reach_next h hq
variable {l:List B8} {base:Nat} {w:W8}
theorem own_pop {g cap:Nat}(h:w.ownsRow base 9 1 (.slice (some ⟨g,0,none⟩) (l++[x]).length cap) (l++[x]).length (strs (l++[x]))):w.ownsRow base 9 1 (.slice (some ⟨g,0,none⟩) l.length cap) l.length (strs l):=by
 rcases h.2 with⟨hv,_⟩ | ⟨g',oO,cur,hv,hb,dm,hn,hc,hs,ht⟩
 ·cases hv
 ·injection hv with h1 h2 h3
  injection h1 with h1
  injection h1 with h1
  subst h1 h3;refine⟨by simp[strs],.inr ⟨g,cap,cur,rfl,hb,dm,by simp at hn;omega,hc,hs,?_⟩⟩;have h4:=congrArg (List.take l.length) ht;rw[List.take_take] at h4;simp[strs] at h4 ⊢;exact h4
variable {v:Value}
theorem own_last (h:w.ownsRow base 9 1 v (l++[x]).length (strs (l++[x]))):∃ g cap,v=.slice (some ⟨g,0,none⟩) (l++[x]).length cap/\base<=g/\g<w.heap.size/\(l++[x]).length<=cap/\cap<=maxLen/\w.cell? ⟨g,l.length,none⟩=some (.string x):=by
 rcases h.2 with⟨_,h0⟩ | ⟨g,cap,cur,rfl,hb,dm,hn,hc,hs,ht⟩
 ·simp at h0
 ·refine⟨g,cap,rfl,hb,(Array.getElem?_eq_some_iff.1 dm).1,hn,hc,?_⟩;rw[h.cellAt l.length (by simp)];simp[strs]
theorem own_str (h:w.ownsRow base 9 1 v l.length (strs l))(k:Nat)(hk:k<l.length):∃ g cap,v=.slice (some ⟨g,0,none⟩) l.length cap/\base<=g/\g<w.heap.size/\l.length<=cap/\cap<=maxLen/\w.cell? ⟨g,k,none⟩=some (.string l[k]):=by
 rcases h.2 with⟨_,h0⟩ | ⟨g,cap,cur,rfl,hb,dm,hn,hc,hs,ht⟩
 ·omega
 ·refine⟨g,cap,rfl,hb,(Array.getElem?_eq_some_iff.1 dm).1,hn,hc,?_⟩;rw[h.cellAt k (by omega)];simp[strs,hk]
end
section
open Go.RowKit Go.Maps
structure eD (w:W8)(st met:List B8)(v:Value)(wr:W8):Prop where
 row:wr.ownsRow (w.heap.size+1) 9 1 v st.length (strs st)
 map:SMap Tryz.prog 9 wr w.heap.size met.length (metV met)
 below:Below w.heap.size w wr
 sz:w.heap.size<wr.heap.size
theorem eD.alloc {w:W8}{st met:List B8}{v:Value}{wr:W8}(h:eD w st met v wr)(o:Obj):eD w st met v (wr.alloc o):=
 have hs:=h.sz
 ⟨h.row.alloc o,h.map.alloc o,h.below.alloc (by omega) _,by simp;omega⟩
variable {x:B8} {wr w1 w:W8} {v:Value} {st met:List B8}
theorem eD.put (h:eD w st met v wr)(hm:SMap Tryz.prog 9 w1 w.heap.size (met.length+1) (updV (metV met) x (.agg #[])))(hg:wr.grownBy w1 (some w.heap.size)):eD w st (met++[x]) v w1:=by
 have hs:=h.sz;have hz:=hg.size;refine⟨own_block h.row (λ g e=>hg.block g ((h.row.lt g e).2) (by have:=(h.row.lt g e).1;simp;omega)),?_,?_,by omega⟩
 ·rw[metV_put] at hm;simpa using hm
 ·exact h.below.trans ⟨hg.os,hg.tape,hg.output,hg.size,λ i hi=>hg.block i (by omega) (by simp;omega)⟩
theorem eD.push {v':Value}(h:eD w st met v wr)(aI:w1.ownsRow (w.heap.size+1) 9 1 v' (st.length+1) (strs st++[.string x]))(hg:wr.grownBy w1 v.ownBlock):eD w (st++[x]) met v' w1:=by
 have hs:=h.sz;have hz:=hg.size;have hr:∀ g,v.ownBlock=some g->w.heap.size+1<=g:=λ g e=>(h.row.lt g e).1
 refine⟨by simpa[strs] using aI,h.map.block (hg.block _ hs (λ e=>by have:=hr _ e.symm;omega)),?_,by omega⟩;exact h.below.trans ⟨hg.os,hg.tape,hg.output,hg.size,λ i hi=>hg.block i (by omega) (λ e=>by have:=hr _ e.symm;omega)⟩
theorem hg_start (w:W8)(p:B8):eD w [p] [] (.slice (some ⟨w.heap.size+1,0,none⟩) 1 1) ((w.alloc (.map #[] 0)).alloc (.cells #[.string p] 9)):=by
 refine⟨⟨by simp[strs],.inr ⟨w.heap.size+1,1,#[.string p],rfl,Nat.le_refl _,?_,Nat.le_refl _,by unfold maxLen;omega,by simp,by simp[strs]⟩⟩,?_,(B9.alloc L9 _).alloc (by simp) _,by simp;omega⟩
 ·have:=heap_alloc_new (w.alloc (.map #[] 0)) (.cells #[.string p] 9);rw[World.size_alloc] at this;exact this
 ·exact (SMap.made Tryz.prog 9 w).alloc _
theorem str_cell1 (w1:W8)(x:B8)(j:Nat)(u:Value)(h:([Value.string x]:V8)[j]?=some u):(w1.alloc (Obj.cells #[.string x] 9)).cell? ((⟨w1.heap.size,0,none⟩:Addr).add j)=some u:=cell_one_new w1 _ _ j u h
theorem cnt_nil (E:List Edge):dP E []<=E.length:=List.length_filter_le _ _
theorem hangs_p_any (w:W8)(b n:Nat)(E:List Edge)(V:B8->Option Value)(p q:B8)(h:Lk b n E V w)(hE:E.length<=1000)(eR:∀ e∈E,e.2.size<=800)(mN:p.size<=800):
  Calls Tryz.prog 120 #[.map (some b),.string p,.string q] w λ e w'=>e=.returned (.bool (hangsP E p q))/\Below w.heap.size w w':=by
 have jB:=@run_makeMap Tryz.prog;obtain⟨i0,hi,dD,cD,cd⟩:=info_parts infoString;have h0:=hg_start w p;have o6:=cnt_nil E;have HL:=hide h;have sW:b<w.heap.size:=h.map.lt;clear h;go_enter Tryz.func120,Tryz.ntmps120;go_wp2_with fail
 go_loopg [8] (E.length+2) (λ gg v wr=>∃ (st met:List B8),st.length+dP E met<=gg/\st.length+dP E met<=E.length+1/\met.length+dP E met<=E.length/\(∀ x∈st,x.size<=800)/\lG E p q st met none/\eD w st met v wr)
 exact⟨[p],[],by simp;omega,by simp;omega,by simpa using o6,by simpa using mN,lG.start E p q,h0⟩
 case round=>
  clear h0 o6;obtain⟨st,met,dm,uk,yK,qp,ie,hinv⟩:=hrel;rcases List.eq_nil_or_concat st with rfl | ⟨fQ,x,rfl⟩
  ·obtain⟨a1,c1,rfl⟩:=own_slice hinv.row;have HS:=hide ie.ends;have HI:=hide hinv;clear ie hinv;go_wp2_with fail;go_ret;exact⟨by rw[ad HS];rfl,(ad HI).below⟩
  ·rw[List.concat_eq_append] at dm uk qp ie hinv;obtain⟨g,cap,rfl,iE,dn,dB,dx,dU⟩:=own_last hinv.row;have yZ:=own_pop hinv.row;obtain⟨sO,pJ⟩:=ie.pop;have hlen:((fQ++[x]).length:Int)=(fQ.length:Int)+1:=(by simp);have pt:(fQ++[x]).length=fQ.length+1:=(by simp);rw[pt] at dm uk dB;have hx8:x.size<=800:=qp x (by simp);have zr:x.size<=maxLen:=(by unfold maxLen;omega);have zi:∀ y∈fQ,y.size<=800:=λ y hy=>qp y (by simp[hy])
   have vK:=(ad HL).below hinv.below;have hu:=vK.at_ x;obtain⟨au,cu,sq⟩:=own_slice hu;have Fw:=vK.map;have JW:=own_max hu;unfold maxLen at dx JW;have dw:eD w fQ met (.slice (some ⟨g,0,none⟩) fQ.length cap) wr:=⟨yZ,hinv.map,hinv.below,hinv.sz⟩;have HU:=hide (show w.ownsRow (b+1) 9 1 (.slice au (tgt E x).length cu) (tgt E x).length (strs (tgt E x)) by rw[<-sq];exact (ad HL).at_ x);clear ie hinv yZ vK hu qp;rw[pt];go_wp2_with (first | (at_lookup;refine wp_look _ rfl _ _ 224 rfl 9 33 Tryz.underlying9 Tryz.underlying224 (Tryz.zeroValue33 _) b n V rfl Fw x rfl zr _ sq ?_));obtain⟨G,hG,IF,hGE⟩:∃ G,fQ.length+dP E met<=G/\G<gk/\G<=E.length:=⟨_,Nat.le_refl _,by omega,by omega⟩;clear dm dU Fw iE dn
   go_loopg [8,35] (tgt E x).length (λ gg2 v i wr=>∃ (j:Nat) (st met:List B8),j<=(tgt E x).length/\gg2=(tgt E x).length-j/\i=.int .i64 j/\st.length+dP E met<=G/\met.length+dP E met<=E.length/\(∀ y∈st,y.size<=800)/\lG E p q st met (some x)/\eD w st met v wr/\∀ z∈(tgt E x).take j,z≠q/\z∈met)
   exact⟨0,fQ,met,Nat.zero_le _,rfl,rfl,hG,yK,zi,sO,dw,by simp⟩
   case round=>
    clear dw sO zi yK hG;obtain⟨j,st,met,hj,vD,rfl,hG,yK,qp,ie,hinv,cF⟩:=hrel;obtain⟨a1,c1,rfl⟩:=own_slice hinv.row
    by_cases iq:j<(tgt E x).length
    ·have hu:=own_below (ad HU) hinv.below (λ g e=>((ad HU).lt g e).2);obtain⟨g',oO,uR,IT,I9,JE,qW,gK⟩:=own_str hu j iq;injection uR with h1 h2 h3
     subst h1 h3;have hz:(tgt E x)[j]∈tgt E x:=List.getElem_mem iq;have Gf:=mem_tgt.1 hz;have Gb:=eR _ Gf;simp only at Gb;have vV:(tgt E x)[j].size<=maxLen:=(by unfold maxLen;omega);have sT:(tgt E x).take (j+1)=(tgt E x).take j++[(tgt E x)[j]]:=List.take_succ_eq_append_getElem iq;have gh:=hide sT;clear hu sT;generalize AE:(tgt E x)[j]=z at *
     cases hq:z.toList==q.toList with
     | true=>
      have zu:z=q:=aN.1 hq;have HR:=hide (hangs_yes pJ (q:=q) (by rw[<-zu];exact hz));have HI:=hide hinv;clear hinv ie cF zu hG;go_wp2_with fail;go_ret;exact⟨by rw[ad HR];rfl,(ad HI).below⟩
     | false=>
      have zu:z≠q:=λ e=>by rw[e] at hq;simp at hq
      have Et:=hide zu;clear zu;have cA:=hinv.map;have F0:(metV met z).getD (.agg #[])=.agg #[]:=by unfold metV;split <;> rfl
      cases hm:isMet met z with
      | true=>
       have mH:(metV met z).isSome=true:=(by unfold metV;rw[if_pos hm];rfl);have HI:=hide (hinv.alloc (.cells #[] 299))
       have HD:=hide (show ∀ y∈(tgt E x).take (j+1),y≠q/\y∈met from λ y hy=>by
        rw[ad gh] at hy;rcases List.mem_append.1 hy with hy | hy
        ·exact cF y hy
        ·simp at hy;subst hy;exact⟨ad Et,bW.1 hm⟩)
       have HS:=hide ie;clear hinv cF ie hm;go_wp2_with (first | (at_lookup;refine wp_look_ok _ rfl _ _ 298 rfl 9 299 Tryz.underlying9 Tryz.underlying298 (Tryz.zeroValue299 _) w.heap.size met.length (metV met) rfl cA z rfl vV _ F0 _ mH ?_));go_roundg ((tgt E x).length-(j+1));exact⟨j+1,st,met,by omega,rfl,by go_num,hG,yK,qp,ad HS,ad HI,ad HD⟩;omega
      | false=>
       have mH:(metV met z).isSome=false:=(by unfold metV;rw[hm];rfl);have hcp:=cnt_put Gf hm;have oo:=hinv.alloc (.cells #[] 299);have sF:=oo.map;have HI:=hide oo;have HS:=hide (ie.push pJ hz);have qv:=hide cF;have lO:st.length<=1000:=(by omega);clear hinv ie hm oo cF;go_wp2_with (first | (at_lookup;refine wp_look_ok _ rfl _ _ 298 rfl 9 299 Tryz.underlying9 Tryz.underlying298 (Tryz.zeroValue299 _) w.heap.size met.length (metV met) rfl cA z rfl vV _ F0 _ mH ?_) | (at_mapUpdate;refine wp_put _ rfl _ _ _ 298 rfl 9 299 Tryz.underlying9 Tryz.underlying298 w.heap.size met.length (metV met) rfl sF (by unfold maxLen;omega) z (.agg #[]) (by rfl) (by rfl) vV ?_));intro w3 ew yw;have jy:=(ad HI).put ew yw;have pX:=jy.sz;have bz:=jy.row.alloc (.cells #[.string z] 9);have kG:=hide (jy.alloc (.cells #[.string z] 9));clear ew yw cA sF HI jy;go_wp2_with (at_builtin;refine wpList_append_own _ rfl _ _ 33 rfl (w.heap.size+1) 9 i0 _ 1 16 Tryz.underlying33 hi dD cD cd rfl (by decide) _ _ _ rfl bz ⟨w3.heap.size,0,none⟩ 1 1 [.string z] rfl rfl (str_cell1 w3 _) (str_one _) (by unfold maxLen;omega) (by omega) (by simp;omega) ?_);intro v5 w5 aL dh dr;clear dr;obtain⟨a5,gF,rfl⟩:=own_slice aL;have si:=(ad kG).push aL dh;have mr:=hide si;clear aL dh bz si kG;go_wp2_with fail;go_roundg ((tgt E x).length-(j+1))
       case measure=>omega
       case rel=>
        refine⟨j+1,st++[z],met++[z],by omega,rfl,by go_num,by simp;omega,by simp;omega,λ y hy=>?_,ad HS,?_,λ y hy=>?_⟩
        ·rcases List.mem_append.1 hy with hy | hy
         ·exact qp y hy
         ·simp at hy;subst hy;exact Gb
        ·have:=ad mr;simpa using this
        ·rw[ad gh] at hy;rcases List.mem_append.1 hy with hy | hy
         ·exact⟨(ad qv y hy).1,by simp[(ad qv y hy).2]⟩
         ·simp at hy;subst hy;exact⟨ad Et,by simp⟩
    ·have HS:=hide (ie.drop (λ z hz=>cF z (by rw[List.take_of_length_le (by omega)];exact hz)));have HI:=hide hinv;clear hinv ie cF;go_wp2_with fail;go_roundg G;exact⟨st,met,hG,by omega,yK,qp,ad HS,ad HI⟩;exact IF
end
section
open Go.RowKit Go.Maps
def headAt (rs:List PRule)(n:Nat):B8:=match rs[n]? with | some R=>R.pd | none=>{ data:=#[] }
noncomputable def cycM (rs:List PRule)(M:PMen):Bool:=M.neg&&(M.pd.toList==(headAt rs M.num).toList||hangsP (edgesP rs) M.pd (headAt rs M.num))
noncomputable def cycleP (rs:List PRule):List PMen->Int
 | []=>-1
 | M::r=>if cycM rs M then (M.start:Int) else cycleP rs r
variable {rs:List PRule}
theorem cycleP_step {ms:List (PMen × Value)}{k:Nat}(h:k<ms.length):cycleP rs ((ms.map (·.1)).drop k)=if cycM rs ms[k].1 then (ms[k].1.start:Int) else cycleP rs ((ms.map (·.1)).drop (k+1)):=by
 rw[List.drop_eq_getElem_cons (by simpa using h),cycleP];simp
theorem edges_size (h:∀ R∈rs,∀ l∈R.body,l.pd.size<=800):∀ e∈edgesP rs,e.2.size<=800:=by
 intro e he;obtain⟨R,hR,he⟩:=List.mem_flatMap.1 he;obtain⟨l,hl,rfl⟩:=List.mem_map.1 he;exact h R hR l hl
theorem edges_len (h:∀ R∈rs,R.body.length<=3):(edgesP rs).length<=3*rs.length:=by
 induction rs with
 | nil=>simp[edgesP]
 | cons R r ih=>
  have h1:=ih (λ x hx=>h x (List.mem_cons_of_mem _ hx));have h2:=h R List.mem_cons_self;have e:edgesP (R::r)=edgesB R.pd R.body++edgesP r:=by simp[edgesP]
  rw[e,List.length_append,List.length_cons];simp only[edgesB,List.length_map];omega
structure Few (rs:List PR)(ms:List (PMen × Value)):Prop where
 r30:rs.length<=30
 zy:ms.length<=1000
 b3:∀ r∈rs,r.bs.length<=3
 rpd:∀ r∈rs,r.R.pd.size<=800
 vW:∀ R∈rs.map (·.R),∀ l∈R.body,l.pd.size<=800
 Kq:∀ x∈ms,x.1.pd.size<=800
 Ks:∀ x∈ms,x.1.num<rs.length/\x.1.ts.length<=4
theorem cycle_p_any (w:W8)(base:Nat)(ar:O8)(cr:Nat)(rs:List PR)(am:O8)(cm:Nat)(ms:List (PMen × Value))(h:bQ w base (.slice ar rs.length cr) rs)(h':bL w base (.slice am ms.length cm) ms)(hf:Few rs ms):
  Calls Tryz.prog 77 #[.agg #[.slice ar rs.length cr,.slice am ms.length cm]] w λ e w'=>e=found (cycleP (rs.map (·.R)) (ms.map (·.1)))/\Below w.heap.size w w':=by
 obtain⟨rq,yJ,cQ,Dg,CN,C2,C5⟩:=hf;have IC:=edges_size CN;have ID:(edgesP (rs.map (·.R))).length<=1000:=by
  have:=edges_len (rs:=rs.map (·.R)) (λ R hR=>by
   obtain⟨r,hr,rfl⟩:=List.mem_map.1 hR;have h1:=cQ r hr;have h2:=(h.each r hr).eq
   rw[<-h2];simpa using h1)
  simp at this;omega
 have h0:=dT.start h h';have Dh:=own_max h.row;unfold maxLen at Dh;have E0:=h0.rules;obtain⟨x1,oD⟩:=block_cells h0.box 1;clear h h';go_enter Tryz.func77,Tryz.ntmps77;go_wp2_with fail;refine (links_any _ base ar cr rs E0 Dg cQ rq).mono ?_;rintro e w1 ⟨rfl,aX,cD,V,aR⟩;have h1:=h0.next aX;obtain⟨y1,DT⟩:=block_cells h1.box 1;rw[World.size_alloc] at aR cD ⊢;clear h0 E0 x1 oD aX;go_wp2_with fail
 go_loopg [15] ms.length (λ gg i wr=>∃ k:Nat,k<=ms.length/\gg=ms.length-k/\i=.int .i64 k/\dT w base (.slice ar rs.length cr) (.slice am ms.length cm) rs ms wr/\Lk (w.heap.size+1) (edgesP (rs.map (·.R))).length (edgesP (rs.map (·.R))) V wr/\cycleP (rs.map (·.R)) (ms.map (·.1))=cycleP (rs.map (·.R)) ((ms.map (·.1)).drop k))
 exact⟨0,Nat.zero_le _,rfl,rfl,h1,aR,rfl⟩
 case round=>
  clear h1 aR y1 DT cD;obtain⟨k,hk,fK,rfl,hinv,aR,bh⟩:=hrel;have HF:=hide bh;clear bh
  by_cases hlkk:k<ms.length
  ·have bK:=hide ((ad HF).trans (cycleP_step hlkk));obtain⟨g,cap,hv,iE,dn,dB,dx,hc⟩:=row_at men_len hinv.eh.row k hlkk;injection hv with h1 h2 h3
   subst h1 h3;obtain⟨cy,fU,gZ⟩:=own_slice (hinv.eh.each _ (List.getElem_mem hlkk));have q0:=hc 0 (by omega);have q1:=hc 1 (by omega);have q2:=hc 2 (by omega);have q3:=hc 3 (by omega);have q4:=hc 4 (by omega);have q5:=hc 5 (by omega);have q6:=hc 6 (by omega);have q7:=hc 7 (by omega);have q8:=hc 8 (by omega);have q9:=hc 9 (by omega);simp only[PMen.cells,gZ,Nat.add_zero,List.getElem?_cons_zero,List.getElem?_cons_succ] at q0 q1 q2 q3 q4 q5 q6 q7 q8 q9;obtain⟨jf,jh⟩:=C5 _ (List.getElem_mem hlkk);obtain⟨gr,oP,nQ,oY,ph,pD,o8,fV⟩:=row_at pr_len hinv.rules.row ms[k].1.num jf;injection nQ with h4 h5 h6
   subst h4 h6;have r0:=fV 0 (by omega);simp only[PR.cells,Nat.add_zero,List.getElem?_cons_zero] at r0;obtain⟨x0,oC⟩:=block_cells hinv.box 0;have bA:=(Below.refl wr.heap.size wr).alloc L9 (.cells #[.int .i64 ms[k].1.num,.bool ms[k].1.neg,.string ms[k].1.pd,.slice cy ms[k].1.ts.length fU,.int .i64 ms[k].1.start,.int .i64 ms[k].1.place,.int .i64 (ms[k].1.pl 0),.int .i64 (ms[k].1.pl 1),.int .i64 (ms[k].1.pl 2),.int .i64 (ms[k].1.pl 3)] 221);have hI:=hinv.next bA;have hL:=aR.below bA;have nF:headAt (rs.map (·.R)) ms[k].1.num=rs[ms[k].1.num].R.pd:=by
    unfold headAt;rw[List.getElem?_map,List.getElem?_eq_getElem jf];rfl
   have mN:=C2 _ (List.getElem_mem hlkk);have hsz:=hinv.sz;have HI:=hide hI;clear hc fV HF hinv aR hI gZ bA;have yn:cycM (rs.map (·.R)) ms[k].1=(ms[k].1.neg&&(ms[k].1.pd.toList==rs[ms[k].1.num].R.pd.toList||hangsP (edgesP (rs.map (·.R))) ms[k].1.pd rs[ms[k].1.num].R.pd)):=(by unfold cycM;rw[nF]);rw[yn] at bK;clear nF yn
   cases eH:ms[k].1.neg with
   | false=>
    rw[eH] at bK q1 HI;have dF:=hide (show cycleP (rs.map (·.R)) (ms.map (·.1))=cycleP (rs.map (·.R)) ((ms.map (·.1)).drop (k+1)) from ad bK);rw[eH] at hL;have HL:=hide hL;clear bK eH hL;go_wp2_with fail;go_roundg (ms.length-(k+1));exact⟨k+1,by omega,rfl,by go_num,ad HI,ad HL,ad dF⟩;omega
   | true=>
    rw[eH] at bK q1 HI hL;have HN:=hide eH;clear eH
    cases heq:ms[k].1.pd.toList==rs[ms[k].1.num].R.pd.toList with
    | true=>
     rw[heq] at bK;have dF:=hide (show cycleP (rs.map (·.R)) (ms.map (·.1))=(ms[k].1.start:Int) from ad bK);clear bK hL;go_wp2_with fail
     go_ret2
     refine⟨?_,(ad HI).below⟩;rw[ad dF];unfold found;rw[if_pos (by omega)];simp
    | false=>
     rw[heq] at bK;go_wp2_with fail;refine (hangs_p_any _ (w.heap.size+1) _ (edgesP (rs.map (·.R))) V ms[k].1.pd rs[ms[k].1.num].R.pd hL ID IC mN).mono ?_;rintro e w2 ⟨rfl,aY⟩;have cd:=aY.size;rw[World.size_alloc] at cd;have jC:(wr.alloc (.cells #[.int .i64 ms[k].1.num,.bool true,.string ms[k].1.pd,.slice cy ms[k].1.ts.length fU,.int .i64 ms[k].1.start,.int .i64 ms[k].1.place,.int .i64 (ms[k].1.pl 0),.int .i64 (ms[k].1.pl 1),.int .i64 (ms[k].1.pl 2),.int .i64 (ms[k].1.pl 3)] 221)).heap[wr.heap.size]?=_:=heap_alloc_new wr _;have lj:=(aY.block wr.heap.size (by simp)).trans jC;obtain⟨z4,Kx⟩:=block_cells lj 4;have fR:=hide ((ad HI).next aY);have vr:=hide (hL.below aY);clear q0 q1 q2 q3 q4 q5 q6 q7 q8 q9 r0 x0 oC hL HI jC lj
     cases hh:hangsP (edgesP (rs.map (·.R))) ms[k].1.pd rs[ms[k].1.num].R.pd with
     | true=>
      rw[hh] at bK;have dF:=hide (show cycleP (rs.map (·.R)) (ms.map (·.1))=(ms[k].1.start:Int) from ad bK);clear bK hh;go_wp2_with fail
      go_ret2
      refine⟨?_,(ad fR).below⟩;rw[ad dF];unfold found;rw[if_pos (by omega)];simp
     | false=>
      rw[hh] at bK;have dF:=hide (show cycleP (rs.map (·.R)) (ms.map (·.1))=cycleP (rs.map (·.R)) ((ms.map (·.1)).drop (k+1)) from ad bK);clear bK hh z4 Kx;go_wp2_with fail;go_roundg (ms.length-(k+1));exact⟨k+1,by omega,rfl,by go_num,ad fR,ad vr,ad dF⟩;omega
  ·have bK:=hide (show cycleP (rs.map (·.R)) (ms.map (·.1))=-1 by rw[ad HF,List.drop_of_length_le (by simp;omega)];rfl);have HI:=hide hinv;clear HF hinv aR;go_wp2_with fail
   go_ret2
   exact⟨by rw[ad bK];rfl,(ad HI).below⟩
end
section
theorem pterms_len (s:B8)(f:Nat):∀ {p:Nat} {l:List (Bool × B8)} {pl:Nat->Nat},(ptermsS s f p l pl).2.2.1.length<=l.length+f:=by
 induction f with
 | zero=>intro p l pl;simp[ptermsS]
 | succ f ih=>
  intro p l pl;rw[ptermsS]
  split
  ·split
   ·refine Nat.le_trans ih ?_;first | (simp;done) | (simp;omega)
   ·first | (simp;done) | (simp;omega)
  ·first | (simp;done) | (simp;omega)
theorem patom_ok {s:B8}{p q:Nat}{pd:B8}{ts:List (Bool × B8)}{pl:Nat->Nat}(h:patomS s p=.yes q pd ts pl):pd.size<=s.size/\ts.length<=4:=by
 unfold patomS at h
 by_cases c1:(ae s p).1=2
 ·rw[if_pos c1] at h
  by_cases c2:(ae s (ae s p).2.2).1=5
  ·rw[if_pos c2] at h
   by_cases c3:(ptermsS s 4 (ae s (ae s p).2.2).2.2 [] (λ _=>0)).1=true
   ·rw[if_pos c3] at h;injection h with h1 h2 h3 h4
    subst h2 h3;refine⟨gu s p,?_⟩;have:=pterms_len s 4 (p:=(ae s (ae s p).2.2).2.2) (l:=[]) (pl:=λ _=>0);simpa using this
   ·rw[if_neg c3] at h;cases h
  ·rw[if_neg c2] at h;injection h with h1 h2 h3 h4
   subst h2 h3;exact⟨gu s p,by simp⟩
 ·rw[if_neg c1] at h;cases h
def OkM (s:B8)(M:PMen):Prop:=M.pd.size<=s.size/\M.ts.length<=4
def OkL (s:B8)(L:PLit):Prop:=L.pd.size<=s.size
def OkR (s:B8)(R:PRule):Prop:=R.pd.size<=s.size/\R.body.length<=3/\∀ l∈R.body,OkL s l
theorem pbody_ok (s:B8)(num f:Nat):∀ {p:Nat} {l:List PLit} {ms:List PMen},(∀ x∈l,OkL s x)->(∀ M∈ms,OkM s M)->(pbodyS s num f p l ms).2.2.1.length<=l.length+f/\(∀ x∈(pbodyS s num f p l ms).2.2.1,OkL s x)/\(∀ M∈(pbodyS s num f p l ms).2.2.2,OkM s M):=by
 induction f with
 | zero=>intro p l ms hl hm;exact⟨by simp[pbodyS],hl,hm⟩
 | succ f ih=>
  intro p l ms hl hm;rw[pbodyS]
  cases hr:patomS s (rtake s p 4) with
  | no q=>exact⟨by simp,hl,hm⟩
  | yes q pd ts pl=>
   obtain⟨o1,o2⟩:=patom_ok hr;have mJ:∀ x∈l++[cI s p pd ts],OkL s x:=λ x hx=>by
    rcases List.mem_append.1 hx with hx | hx
    ·exact hl x hx
    ·simp at hx;subst hx;exact o1
   have me:∀ M∈ms++[cJ s num p pd ts pl],OkM s M:=λ x hx=>by
    rcases List.mem_append.1 hx with hx | hx
    ·exact hm x hx
    ·simp at hx;subst hx;exact⟨o1,o2⟩
   simp only
   split
   ·obtain⟨a,b,c⟩:=ih (p:=(ae s q).2.2) mJ me;refine⟨Nat.le_trans a ?_,b,c⟩
    first | (simp;done) | (simp;omega)
   ·exact⟨by first | (simp;done) | (simp;omega),mJ,me⟩
variable {ms:List PMen}
theorem prule_ok (s:B8)(num p:Nat)(hm:∀ M∈ms,OkM s M):OkR s (pruleS s num p ms).2.2.1/\∀ M∈(pruleS s num p ms).2.2.2,OkM s M:=by
 unfold pruleS
 cases hr:patomS s p with
 | no q=>exact⟨⟨Nat.zero_le _,by simp,by simp⟩,hm⟩
 | yes q pd ts pl=>
  obtain⟨o1,o2⟩:=patom_ok hr;have me:∀ M∈ms++[dd s num p pd ts pl],OkM s M:=λ x hx=>by
   rcases List.mem_append.1 hx with hx | hx
   ·exact hm x hx
   ·simp at hx;subst hx;exact⟨o1,o2⟩
  simp only
  split
  ·exact⟨⟨o1,by simp,by simp⟩,me⟩
  ·split
   ·obtain⟨a,b,c⟩:=pbody_ok s num 3 (p:=(ae s q).2.2) (l:=[]) (by simp) me;exact⟨⟨o1,by simpa using a,b⟩,c⟩
   ·exact⟨⟨o1,by simp,by simp⟩,me⟩
theorem prules_ok (s:B8)(f:Nat):∀ {p:Nat} {rs:List PRule} {ms:List PMen},(∀ R∈rs,OkR s R)->(∀ M∈ms,OkM s M)->(∀ R∈(prulesS s f p rs ms).2.2.1,OkR s R)/\(∀ M∈(prulesS s f p rs ms).2.2.2,OkM s M):=by
 induction f with
 | zero=>intro p rs ms hr hm;exact⟨hr,hm⟩
 | succ f ih=>
  intro p rs ms hr hm;obtain⟨o1,o2⟩:=prule_ok s rs.length p hm;rw[prulesS]
  split
  ·exact⟨hr,hm⟩
  ·split
   ·exact⟨hr,hm⟩
   ·split
    ·refine ih (λ R hR=>?_) o2;rcases List.mem_append.1 hR with hR | hR
     ·exact hr R hR
     ·simp at hR;subst hR;exact o1
    ·exact⟨hr,o2⟩
theorem text_num {n:Nat}{rs:List RRule}(h:bO n rs ms):∀ M∈ms,n<=M.num/\M.num<n+rs.length:=by
 induction h with
 | nil n=>simp
 | cons h t ih=>
  intro M hM;rcases List.mem_append.1 hM with hM | hM
  ·obtain⟨q,_,q2,q3⟩:=h;rw[<-q2] at hM;obtain⟨x,hx,rfl⟩:=List.mem_map.1 hM;have:=(q3 x hx).num;simp;omega
  ·have:=ih M hM;simp;omega
theorem pparsed_ok (s:B8)(hs:s.size<=800)(h:(pparsed s).1=true):(∀ R∈(pparsed s).2.2.1,R.pd.size<=800/\R.body.length<=3/\∀ l∈R.body,l.pd.size<=800)/\(∀ M∈(pparsed s).2.2.2,M.pd.size<=800/\M.ts.length<=4/\M.num<(pparsed s).2.2.1.length):=by
 obtain⟨o1,o2⟩:=prules_ok s 31 (p:=0) (rs:=[]) (ms:=[]) (by simp) (by simp);obtain⟨_,e2,e3⟩:=(parsed_eq s).1 h;refine⟨λ R hR=>?_,λ M hM=>?_⟩
 ·obtain⟨a,b,c⟩:=o1 R hR;exact⟨Nat.le_trans a hs,b,λ l hl=>Nat.le_trans (c l hl) hs⟩
 ·obtain⟨a,b⟩:=o2 M hM;have:=(text_num e3 M hM).2;rw[e2];exact⟨Nat.le_trans a hs,b,by simpa using this⟩
end
section
open Go.RowKit Go.Maps
noncomputable def faultP (rs:List PRule)(ms:List PMen):Int × Int:=
 if 0<=parity ms [] then (3,parity ms []) else if 0<=unboundI rs ms then (4,unboundI rs ms) else if 0<=cycleP rs ms then (5,cycleP rs ms) else (0,0)
theorem fault_any (w:W8)(base:Nat)(ar:O8)(cr:Nat)(rs:List PR)(am:O8)(cm:Nat)(ms:List (PMen × Value))(h:bQ w base (.slice ar rs.length cr) rs)(h':bL w base (.slice am ms.length cm) ms)(hf:Few rs ms):
  Calls Tryz.prog 46 #[.agg #[.slice ar rs.length cr,.slice am ms.length cm]] w λ e w'=>e=.returned (.tuple #[.int .i64 (faultP (rs.map (·.R)) (ms.map (·.1))).1,.int .i64 (faultP (rs.map (·.R)) (ms.map (·.1))).2])/\Below w.heap.size w w':=by
 have h0:=dT.start h h';have hF:faultP (rs.map (·.R)) (ms.map (·.1))=_:=faultP.eq_1 (rs.map (·.R)) (ms.map (·.1));have HF:=hide hF;clear h h' hF;go_enter Tryz.func46,Tryz.ntmps46;go_wp2_with fail;refine (parity_any _ base ar rs.length cr am cm ms h0.eh hf.zy hf.Kq).mono ?_;rintro e w1 ⟨he,aX⟩;have h1:=h0.next aX;obtain⟨x0,oC⟩:=block_cells h1.box 0;obtain⟨x1,oD⟩:=block_cells h1.box 1;have uN:=h1.sz;clear h0 aX
 by_cases c1:0<=parity (ms.map (·.1)) []
 ·have gd:=hide ((ad HF).trans (if_pos c1));have iF:e=.returned (.tuple #[.int .i64 (parity (ms.map (·.1)) []),.bool true]):=by rw[he];unfold found;rw[if_pos c1];simp[c1]
  subst iF;have HB:=hide h1.below;clear HF he c1 h1;go_wp2_with fail
  go_ret2
  exact⟨by rw[ad gd];rfl,ad HB⟩
 ·have gd:=hide ((ad HF).trans (if_neg c1));have iF:e=.returned (.tuple #[.int .i64 0,.bool false]):=by rw[he];unfold found;rw[if_neg c1];simp[c1]
  subst iF;clear HF he c1;go_wp2_with fail;refine (unbound_any _ base ar cr rs am cm ms h1.rules h1.eh hf.zy hf.Ks (λ r hr=>by have:=hf.b3 r hr;omega)).mono ?_;rintro e w2 ⟨he,aY⟩;have h2:=h1.next aY;clear h1 aY x0 x1 oC oD;obtain⟨x0,oC⟩:=block_cells h2.box 0;obtain⟨x1,oD⟩:=block_cells h2.box 1;have nO:=h2.sz
  by_cases c2:0<=unboundI (rs.map (·.R)) (ms.map (·.1))
  ·have bK:=hide ((ad gd).trans (if_pos c2));have iF:e=.returned (.tuple #[.int .i64 (unboundI (rs.map (·.R)) (ms.map (·.1))),.bool true]):=(by rw[he];unfold found;rw[if_pos c2];simp[c2]);subst iF;have HB:=hide h2.below;clear gd he c2 h2;go_wp2_with fail
   go_ret2
   exact⟨by rw[ad bK];rfl,ad HB⟩
  ·have bK:=hide ((ad gd).trans (if_neg c2));have iF:e=.returned (.tuple #[.int .i64 0,.bool false]):=(by rw[he];unfold found;rw[if_neg c2];simp[c2]);subst iF;clear gd he c2;go_wp2_with fail;refine (cycle_p_any _ base ar cr rs am cm ms h2.rules h2.eh hf).mono ?_;rintro e w3 ⟨he,cQ⟩;have h3:=h2.next cQ;have HB:=hide h3.below;clear h2 cQ x0 x1 oC oD h3
   by_cases c3:0<=cycleP (rs.map (·.R)) (ms.map (·.1))
   ·have dF:=hide ((ad bK).trans (if_pos c3));have iF:e=.returned (.tuple #[.int .i64 (cycleP (rs.map (·.R)) (ms.map (·.1))),.bool true]):=(by rw[he];unfold found;rw[if_pos c3];simp[c3]);subst iF;clear bK he c3;go_wp2_with fail
    go_ret2
    exact⟨by rw[ad dF];rfl,ad HB⟩
   ·have dF:=hide ((ad bK).trans (if_neg c3));have iF:e=.returned (.tuple #[.int .i64 0,.bool false]):=(by rw[he];unfold found;rw[if_neg c3];simp[c3]);subst iF;clear bK he c3;go_wp2_with fail
    go_ret2
    exact⟨by rw[ad dF];rfl,ad HB⟩
noncomputable def pload (s:B8):Bool × Int × Int:=
 if 800<s.size then (false,1,0)
 else if (pparsed s).1=false then (false,2,(ae s (pparsed s).2.1).2.1)
 else if (faultP (pparsed s).2.2.1 (pparsed s).2.2.2).1≠0 then (false,(faultP (pparsed s).2.2.1 (pparsed s).2.2.2).1,(faultP (pparsed s).2.2.1 (pparsed s).2.2.2).2)
 else (true,0,0)
def ProgIn (w:W8)(base b:Nat)(rs:List PR):Prop:=∃ (a:O8) (c:Nat),w.heap[b]?=some (.cells #[.slice a rs.length c] 106 (0,0))/\base<=b/\bQ w base (.slice a rs.length c) rs
def LoadPost (w:W8)(P:Bool × Int × Int)(rules:List PRule)(e:Ending)(w':W8):Prop:=
 Below w.heap.size w w'/\(P.1=false->e=.returned (.tuple #[.pointer none,.int .i64 P.2.1,.int .i64 P.2.2])) /\
 (P.1=true->∃ (b:Nat) (rs:List PR),e=.returned (.tuple #[.pointer (some ⟨b,0,none⟩),.int .i64 P.2.1,.int .i64 P.2.2])/\ProgIn w' w.heap.size b rs/\rs.map (·.R)=rules)
theorem pload_any (w:W8)(s:B8)(hs:s.size<=maxLen):
  Calls Tryz.prog 30 #[.string s] w (LoadPost w (pload s) (pparsed s).2.2.1):=by
 have hP:pload s=_:=pload.eq_1 s;have HP:=hide hP;clear hP;unfold maxLen at hs
 by_cases c0:800<s.size
 ·have Iu:800<(s.size:Int):=by omega
  have vt:=hide ((ad HP).trans (if_pos c0));clear HP c0;go_enter Tryz.func30,Tryz.ntmps30;go_wp2_with fail
  go_ret3
  rw[ad vt];exact⟨Below.refl _ _,λ _=>rfl,λ e=>by cases e⟩
 ·have Iu:¬ 800<(s.size:Int):=by omega
  have vt:=hide ((ad HP).trans (if_neg c0));have qp:s.size<=800:=by omega
  clear HP c0;go_enter Tryz.func30,Tryz.ntmps30;go_wp2_with fail;refine (prules_any _ s (by omega)).mono ?_;rintro e w1 ⟨aX,cC,eJ⟩
  cases c1:(pparsed s).1 with
  | false=>
   have iT:=hide ((ad vt).trans (if_pos c1));have he:=cC c1;subst he;clear cC eJ vt c1;go_wp2_with fail
   go_ret3
   rw[ad iT];exact⟨aX.alloc aX.size _,λ _=>rfl,λ e=>by cases e⟩
  | true=>
   have iT:=hide ((ad vt).trans (if_neg (by rw[c1];decide)));obtain⟨a,n,c,a',n',c',rs,ms,rfl,hR,vQ,hM,ff,rq,yJ⟩:=eJ c1;obtain⟨ar,cr,uS⟩:=own_slice hR.row;obtain⟨am,cm,JX⟩:=own_slice hM.row;injection uS with h1 h2 h3
   injection JX with h4 h5 h6
   subst h1 h2 h3 h4 h5 h6;obtain⟨o1,o2⟩:=pparsed_ok s qp c1;rw[<-vQ] at o1 o2;rw[<-ff] at o2;rw[<-vQ,<-ff] at iT;have qg:=hide vQ;have hf:Few rs ms:=by
    refine⟨rq,by omega,λ r hr=>?_,λ r hr=>(o1 _ (List.mem_map_of_mem hr)).1,λ R hR l hl=>(o1 R hR).2.2 l hl,λ x hx=>(o2 _ (List.mem_map_of_mem hx)).1,λ x hx=>?_⟩
    ·have h1:=(o1 _ (List.mem_map_of_mem hr)).2.1;have h2:=(hR.each r hr).eq;rw[<-h2] at h1;simpa using h1
    ·obtain⟨_,h2,h3⟩:=o2 _ (List.mem_map_of_mem hx);exact⟨by simpa using h3,h2⟩
   have kA:=(Below.refl w1.heap.size w1).alloc L9 (.cells #[.slice a rs.length c,.slice a' ms.length c'] 100);have B5:=hR.below kA;have EO:=hM.below kA;have dc:(w1.alloc (.cells #[.slice a rs.length c,.slice a' ms.length c'] 100)).heap[w1.heap.size]?=_:=heap_alloc_new w1 _;have br:=aX.size;have gJ:=aX.trans (kA.mono br);clear cC eJ vt c1 hR hM vQ ff o1 o2 kA;go_wp2_with fail;refine (fault_any _ w.heap.size a c rs a' c' ms B5 EO hf).mono ?_;rintro e w2 ⟨rfl,aY⟩;have cd:=aY.size;rw[World.size_alloc] at cd;have IK:=B5.below aY;have fc:=(aY.block w1.heap.size (by simp)).trans dc;have mB:=gJ.trans (aY.mono (by simp;omega));obtain⟨x0,oC⟩:=block_cells fc 0;clear B5 EO dc fc aY gJ
   by_cases c2:(faultP (rs.map (·.R)) (ms.map (·.1))).1≠0
   ·have Iv:((faultP (rs.map (·.R)) (ms.map (·.1))).1 != 0)=true:=(by simpa using c2);have od:=hide ((ad iT).trans (if_pos c2));clear iT c2;go_wp2_with fail
    go_ret3
    rw[ad od];exact⟨mB,λ _=>rfl,λ e=>by cases e⟩
   ·have Iv:((faultP (rs.map (·.R)) (ms.map (·.1))).1 != 0)=false:=(by simpa using c2);have od:=hide ((ad iT).trans (if_neg c2));clear iT c2;go_wp2_with fail
    go_ret3
    rw[ad od];have kB:=(Below.refl w2.heap.size w2).alloc L9 (.cells #[.slice a rs.length c] 106);exact⟨mB.trans (kB.mono (by omega)),λ e=>(by cases e),λ _=>⟨w2.heap.size,rs,rfl,⟨a,c,heap_alloc_new w2 _,by omega,IK.below kB⟩,ad qg⟩⟩
end
end Go.Proofs.YtldkpahaocjdpaaGreat
