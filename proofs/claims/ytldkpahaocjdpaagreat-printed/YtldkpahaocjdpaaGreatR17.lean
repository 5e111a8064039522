/-
  Plain: what hangs on what, by the links; a search's stack and what it has met.
-/
import Derived.Test.YtldkpahaocjdpaaGreatR16
set_option maxHeartbeats 16000000
set_option maxRecDepth 1000000
namespace Go.Proofs.YtldkpahaocjdpaaGreat
section
open Go.RowKit Go.Maps
inductive Reach (E:List Edge):B8->B8->Prop where
 | one {a b:B8} (h:(a,b)∈E):Reach E a b
 | next {a b c:B8} (t:Reach E a b) (h:(b,c)∈E):Reach E a c
open Classical in
noncomputable def hangsP (E:List Edge)(p q:B8):Bool:=decide (Reach E p q)
variable {p x:B8} {E:List Edge}
theorem mem_tgt:x∈tgt E p↔(p,x)∈E:=by
 unfold tgt
 constructor
 ·intro h;obtain⟨e,he,rfl⟩:=List.mem_map.1 h;obtain⟨h1,h2⟩:=List.mem_filter.1 he;have:e.1=p:=aW.1 h2;rw[<-this];exact h1
 ·intro h;exact List.mem_map.2 ⟨(p,x),List.mem_filter.2 ⟨h,by simp⟩,rfl⟩
def isMet (met:List B8)(x:B8):Bool:=met.any λ m=>m.toList==x.toList
variable {met:List B8}
theorem bW:isMet met x=true↔x∈met:=by
 unfold isMet;rw[List.any_eq_true]
 constructor
 ·rintro⟨m,hm,h⟩;rw[<-aW.1 h];exact hm
 ·intro h;exact⟨x,h,by simp⟩
def metV (met:List B8):B8->Option Value:=λ k=>if isMet met k then some (.agg #[]) else none
theorem metV_put (met:List B8)(x:B8):updV (metV met) x (.agg #[])=metV (met++[x]):=by
 funext k
 by_cases e:k=x
 ·subst e;rw[updV_same];unfold metV;rw[if_pos (bW.2 (by simp))]
 ·rw[updV_other e];unfold metV
  by_cases h:isMet met k=true
  ·rw[if_pos h,if_pos (bW.2 (by have:=bW.1 h;simp[this]))]
  ·rw[if_neg h,if_neg (λ h2=>by
    have:=bW.1 h2;simp at this;rcases this with h3 | h3
    ·exact h (bW.2 h3)
    ·exact e h3)]
def dF (E:List Edge)(met:List B8):Nat:=(E.filter λ e=>!isMet met e.2).length
theorem cnt_mono (met:List B8)(x:B8):∀ (l:List Edge),(l.filter λ e=>!isMet (met++[x]) e.2).length<=(l.filter λ e=>!isMet met e.2).length
 | []=>Nat.le_refl _
 | e::r=>by
  have ih:=cnt_mono met x r;have mono:isMet met e.2=true->isMet (met++[x]) e.2=true:=λ h=>bW.2 (by have:=bW.1 h;simp[this])
  simp only[List.filter_cons]
  cases h2:isMet met e.2 with
  | true=>rw[mono h2];simpa using ih
  | false=>
   cases h3:isMet (met++[x]) e.2 with
   | true=>simp;omega
   | false=>simp;omega
theorem cnt_less {met:List B8}{x y:B8}(hn:isMet met x=false):∀ (l:List Edge),(y,x)∈l->(l.filter λ e=>!isMet (met++[x]) e.2).length+1<=(l.filter λ e=>!isMet met e.2).length
 | [],h=>by cases h
 | e::r,h=>by
  have mono:isMet met e.2=true->isMet (met++[x]) e.2=true:=λ h=>bW.2 (by have:=bW.1 h;simp[this])
  have h1:isMet (met++[x]) x=true:=bW.2 (by simp);simp only[List.filter_cons];rcases List.mem_cons.1 h with he | hr
  ·have:=cnt_mono met x r;subst he;simp only[h1,hn,Bool.not_true,Bool.not_false,Bool.false_eq_true,if_false,if_true,List.length_cons];omega
  ·have ih:=cnt_less hn r hr
   cases h2:isMet met e.2 with
   | true=>rw[mono h2];simpa using ih
   | false=>
    cases h3:isMet (met++[x]) e.2 with
    | true=>simp;omega
    | false=>simp;omega
theorem cnt_put {y:B8}(h:(y,x)∈E)(hn:isMet met x=false):dF E (met++[x])+1<=dF E met:=cnt_less hn E h
structure lz (E:List Edge)(p q:B8)(st met:List B8)(now:Option B8):Prop where
 onStack:∀ x∈st,x=p\/Reach E p x
 pU:∀ x∈met,Reach E p x
 done:∀ y,(y=p\/y∈met)->y∈st\/now=some y\/∀ z∈tgt E y,z≠q/\z∈met
theorem lz.start (E:List Edge)(p q:B8):lz E p q [p] [] none:=
 ⟨λ x hx=>.inl (by simpa using hx),λ x hx=>(by cases hx),λ y hy=>.inl (by rcases hy with rfl | h;simp;cases h)⟩
variable {st:List B8} {q:B8}
theorem lz.pop (h:lz E p q (st++[x]) met none):lz E p q st met (some x)/\(x=p\/Reach E p x):=by
 refine⟨⟨λ y hy=>h.onStack y (by simp[hy]),h.pU,λ y hy=>?_⟩,h.onStack x (by simp)⟩;rcases h.done y hy with h1 | h1 | h1
 ·simp at h1;rcases h1 with h1 | h1
  ·exact .inl h1
  ·exact .inr (.inl (by rw[h1]))
 ·cases h1
 ·exact .inr (.inr h1)
variable {z:B8}
theorem reach_next (h:x=p\/Reach E p x)(hz:z∈tgt E x):Reach E p z:=by
 rcases h with rfl | h
 ·exact .one (mem_tgt.1 hz)
 ·exact .next h (mem_tgt.1 hz)
theorem lz.push (h:lz E p q st met (some x))(hx:x=p\/Reach E p x)(hz:z∈tgt E x):lz E p q (st++[z]) (met++[z]) (some x):=by
 have hr:=reach_next hx hz;refine⟨λ y hy=>?_,λ y hy=>?_,λ y hy=>?_⟩
 ·rcases List.mem_append.1 hy with hy | hy
  ·exact h.onStack y hy
  ·simp at hy;subst hy;exact .inr hr
 ·rcases List.mem_append.1 hy with hy | hy
  ·exact h.pU y hy
  ·simp at hy;subst hy;exact hr
 ·have vU:(y=p\/y∈met)\/y=z:=by
   rcases hy with hy | hy
   ·exact .inl (.inl hy)
   ·rcases List.mem_append.1 hy with hy | hy
    ·exact .inl (.inr hy)
    ·exact .inr (by simpa using hy)
  rcases vU with hy | rfl
  ·rcases h.done y hy with h1 | h1 | h1
   ·exact .inl (by simp[h1])
   ·exact .inr (.inl h1)
   ·exact .inr (.inr λ u hu=>⟨(h1 u hu).1,by simp[(h1 u hu).2]⟩)
  ·exact .inl (by simp)
theorem lz.drop (h:lz E p q st met (some x))(hd:∀ z∈tgt E x,z≠q/\z∈met):lz E p q st met none:=by
 refine⟨h.onStack,h.pU,λ y hy=>?_⟩;rcases h.done y hy with h1 | h1 | h1
 ·exact .inl h1
 ·injection h1 with h1;subst h1;exact .inr (.inr hd)
 ·exact .inr (.inr h1)
theorem lz.ends (h:lz E p q [] met none):hangsP E p q=false:=by
 have key:∀ x,Reach E p x->x≠q/\x∈met:=by
  intro x hx;have step:∀ y,(y=p\/y∈met)->∀ z,(y,z)∈E->z≠q/\z∈met:=λ y hy z hz=>by
   rcases h.done y hy with h1 | h1 | h1
   ·cases h1
   ·cases h1
   ·exact h1 z (mem_tgt.2 hz)
  induction hx with
  | one h1=>exact step p (.inl rfl) _ h1
  | next t h1 ih=>exact step _ (.inr (ih).2) _ h1
 unfold hangsP;simp only[decide_eq_false_iff_not];exact λ hr=>(key q hr).1 rfl
theorem hangs_yes (h:x=p\/Reach E p x)(hq:q∈tgt E x):hangsP E p q=true:=by
 unfold hangsP;simp only[decide_eq_true_eq];exact reach_next h hq
variable {l:List B8} {base:Nat} {w:W8}
theorem own_pop {g cap:Nat}(h:w.ownsRow base 9 1 (.slice (some ⟨g,0,none⟩) (l++[x]).length cap) (l++[x]).length (strs (l++[x]))):w.ownsRow base 9 1 (.slice (some ⟨g,0,none⟩) l.length cap) l.length (strs l):=by
 rcases h.2 with⟨hv,_⟩ | ⟨g',oI,cur,hv,hb,dn,hn,hc,hs,ht⟩
 ·cases hv
 ·injection hv with h1 h2 h3
  injection h1 with h1
  injection h1 with h1
  subst h1 h3;refine⟨by simp[strs],.inr ⟨g,cap,cur,rfl,hb,dn,by simp at hn;omega,hc,hs,?_⟩⟩;have h4:=congrArg (List.take l.length) ht;rw[List.take_take] at h4;simp[strs] at h4 ⊢;exact h4
variable {v:Value}
theorem own_last (h:w.ownsRow base 9 1 v (l++[x]).length (strs (l++[x]))):∃ g cap,v=.slice (some ⟨g,0,none⟩) (l++[x]).length cap/\base<=g/\g<w.heap.size/\(l++[x]).length<=cap/\cap<=maxLen/\w.cell? ⟨g,l.length,none⟩=some (.string x):=by
 rcases h.2 with⟨_,h0⟩ | ⟨g,cap,cur,rfl,hb,dn,hn,hc,hs,ht⟩
 ·simp at h0
 ·refine⟨g,cap,rfl,hb,(Array.getElem?_eq_some_iff.1 dn).1,hn,hc,?_⟩;rw[h.cellAt l.length (by simp)];simp[strs]
theorem own_str (h:w.ownsRow base 9 1 v l.length (strs l))(k:Nat)(hk:k<l.length):∃ g cap,v=.slice (some ⟨g,0,none⟩) l.length cap/\base<=g/\g<w.heap.size/\l.length<=cap/\cap<=maxLen/\w.cell? ⟨g,k,none⟩=some (.string l[k]):=by
 rcases h.2 with⟨_,h0⟩ | ⟨g,cap,cur,rfl,hb,dn,hn,hc,hs,ht⟩
 ·omega
 ·refine⟨g,cap,rfl,hb,(Array.getElem?_eq_some_iff.1 dn).1,hn,hc,?_⟩;rw[h.cellAt k (by omega)];simp[strs,hk]
end
section
open Go.RowKit Go.Maps
structure eD (w:W8)(st met:List B8)(v:Value)(wr:W8):Prop where
 row:wr.ownsRow (w.heap.size+1) 9 1 v st.length (strs st)
 map:SMap Tryz.prog 9 wr w.heap.size met.length (metV met)
 below:Below w.heap.size w wr
 sz:w.heap.size<wr.heap.size
theorem eD.alloc {w:W8}{st met:List B8}{v:Value}{wr:W8}(h:eD w st met v wr)(o:Obj):eD w st met v (wr.alloc o):=
 have hs:=h.sz
 ⟨h.row.alloc o,h.map.alloc o,h.below.alloc (by omega) _,by simp;omega⟩
variable {x:B8} {wr w1 w:W8} {v:Value} {st met:List B8}
theorem eD.put (h:eD w st met v wr)(hm:SMap Tryz.prog 9 w1 w.heap.size (met.length+1) (updV (metV met) x (.agg #[])))(hg:wr.grownBy w1 (some w.heap.size)):eD w st (met++[x]) v w1:=by
 have hs:=h.sz;have hz:=hg.size;refine⟨own_block h.row (λ g e=>hg.block g ((h.row.lt g e).2) (by have:=(h.row.lt g e).1;simp;omega)),?_,?_,by omega⟩
 ·rw[metV_put] at hm;simpa using hm
 ·exact h.below.trans ⟨hg.os,hg.tape,hg.output,hg.size,λ i hi=>hg.block i (by omega) (by simp;omega)⟩
theorem eD.push {v':Value}(h:eD w st met v wr)(aI:w1.ownsRow (w.heap.size+1) 9 1 v' (st.length+1) (strs st++[.string x]))(hg:wr.grownBy w1 v.ownBlock):eD w (st++[x]) met v' w1:=by
 have hs:=h.sz;have hz:=hg.size;have hr:∀ g,v.ownBlock=some g->w.heap.size+1<=g:=λ g e=>(h.row.lt g e).1
 refine⟨by simpa[strs] using aI,h.map.block (hg.block _ hs (λ e=>by have:=hr _ e.symm;omega)),?_,by omega⟩;exact h.below.trans ⟨hg.os,hg.tape,hg.output,hg.size,λ i hi=>hg.block i (by omega) (λ e=>by have:=hr _ e.symm;omega)⟩
theorem hg_start (w:W8)(p:B8):eD w [p] [] (.slice (some ⟨w.heap.size+1,0,none⟩) 1 1) ((w.alloc (.map #[] 0)).alloc (.cells #[.string p] 9)):=by
 refine⟨⟨by simp[strs],.inr ⟨w.heap.size+1,1,#[.string p],rfl,Nat.le_refl _,?_,Nat.le_refl _,by unfold maxLen;omega,by simp,by simp[strs]⟩⟩,?_,(B9.alloc L9 _).alloc (by simp) _,by simp;omega⟩
 ·have:=heap_alloc_new (w.alloc (.map #[] 0)) (.cells #[.string p] 9);rw[World.size_alloc] at this;exact this
 ·exact (SMap.made Tryz.prog 9 w).alloc _
theorem str_cell1 (w1:W8)(x:B8)(j:Nat)(u:Value)(h:([Value.string x]:V8)[j]?=some u):(w1.alloc (Obj.cells #[.string x] 9)).cell? ((⟨w1.heap.size,0,none⟩:Addr).add j)=some u:=cell_one_new w1 _ _ j u h
theorem cnt_nil (E:List Edge):dF E []<=E.length:=List.length_filter_le _ _
theorem hangs_p_any (w:W8)(b n:Nat)(E:List Edge)(V:B8->Option Value)(p q:B8)(h:Lk b n E V w)(hE:E.length<=1000)(eN:∀ e∈E,e.2.size<=800)(mJ:p.size<=800):
  Calls Tryz.prog 120 #[.map (some b),.string p,.string q] w λ e w'=>e=.returned (.bool (hangsP E p q))/\Below w.heap.size w w':=by
 have jA:=@run_makeMap Tryz.prog;obtain⟨i0,hi,dK,ir,bZ⟩:=info_parts infoString;have h0:=hg_start w p;have oW:=cnt_nil E;have HL:=hide h;have sT:b<w.heap.size:=h.map.lt;clear h;go_enter Tryz.func120,Tryz.ntmps120;go_wp2_with fail
 go_loopg [8] (E.length+2) (λ gg v wr=>∃ (st met:List B8),st.length+dF E met<=gg/\st.length+dF E met<=E.length+1/\met.length+dF E met<=E.length/\(∀ x∈st,x.size<=800)/\lz E p q st met none/\eD w st met v wr)
 exact⟨[p],[],by simp;omega,by simp;omega,by simpa using oW,by simpa using mJ,lz.start E p q,h0⟩
 case round=>
  clear h0 oW;obtain⟨st,met,dn,um,yR,qo,gY,hinv⟩:=hrel;rcases List.eq_nil_or_concat st with rfl | ⟨fF,x,rfl⟩
  ·obtain⟨a1,c1,rfl⟩:=own_slice hinv.row;have HS:=hide gY.ends;have HI:=hide hinv;clear gY hinv;go_wp2_with fail;go_ret;exact⟨by rw[ad HS];rfl,(ad HI).below⟩
  ·rw[List.concat_eq_append] at dn um qo gY hinv;obtain⟨g,cap,rfl,iC,dp,dG,dx,dV⟩:=own_last hinv.row;have zh:=own_pop hinv.row;obtain⟨sL,pB⟩:=gY.pop;have hlen:((fF++[x]).length:Int)=(fF.length:Int)+1:=(by simp);have qh:(fF++[x]).length=fF.length+1:=(by simp);rw[qh] at dn um dG;have hx8:x.size<=800:=qo x (by simp);have zz:x.size<=maxLen:=(by unfold maxLen;omega);have zo:∀ y∈fF,y.size<=800:=λ y hy=>qo y (by simp[hy])
   have vL:=(ad HL).below hinv.below;have hu:=vL.at_ x;obtain⟨au,cu,sj⟩:=own_slice hu;have FK:=vL.map;have Ka:=own_max hu;unfold maxLen at dx Ka;have dw:eD w fF met (.slice (some ⟨g,0,none⟩) fF.length cap) wr:=⟨zh,hinv.map,hinv.below,hinv.sz⟩;have HU:=hide (show w.ownsRow (b+1) 9 1 (.slice au (tgt E x).length cu) (tgt E x).length (strs (tgt E x)) by rw[<-sj];exact (ad HL).at_ x);clear gY hinv zh vL hu qo;rw[qh];go_wp2_with (first | (at_lookup;refine wp_look _ rfl _ _ 224 rfl 9 33 Tryz.underlying9 Tryz.underlying224 (Tryz.zeroValue33 _) b n V rfl FK x rfl zz _ sj ?_));obtain⟨G,hG,IV,hGE⟩:∃ G,fF.length+dF E met<=G/\G<gk/\G<=E.length:=⟨_,Nat.le_refl _,by omega,by omega⟩;clear dn dV FK iC dp
   go_loopg [8,35] (tgt E x).length (λ gg2 v i wr=>∃ (j:Nat) (st met:List B8),j<=(tgt E x).length/\gg2=(tgt E x).length-j/\i=.int .i64 j/\st.length+dF E met<=G/\met.length+dF E met<=E.length/\(∀ y∈st,y.size<=800)/\lz E p q st met (some x)/\eD w st met v wr/\∀ z∈(tgt E x).take j,z≠q/\z∈met)
   exact⟨0,fF,met,Nat.zero_le _,rfl,rfl,hG,yR,zo,sL,dw,by simp⟩
   case round=>
    clear dw sL zo yR hG;obtain⟨j,st,met,hj,uo,rfl,hG,yR,qo,gY,hinv,cF⟩:=hrel;obtain⟨a1,c1,rfl⟩:=own_slice hinv.row
    by_cases ij:j<(tgt E x).length
    ·have hu:=own_below (ad HU) hinv.below (λ g e=>((ad HU).lt g e).2);obtain⟨g',oI,uV,I6,Jn,JO,Jd,gD⟩:=own_str hu j ij;injection uV with h1 h2 h3
     subst h1 h3;have hz:(tgt E x)[j]∈tgt E x:=List.getElem_mem ij;have Gt:=mem_tgt.1 hz;have Gp:=eN _ Gt;simp only at Gp;have vV:(tgt E x)[j].size<=maxLen:=(by unfold maxLen;omega);have sP:(tgt E x).take (j+1)=(tgt E x).take j++[(tgt E x)[j]]:=List.take_succ_eq_append_getElem ij;have fU:=hide sP;clear hu sP;generalize AL:(tgt E x)[j]=z at *
     cases hq:z.toList==q.toList with
     | true=>
      have zB:z=q:=aW.1 hq;have HR:=hide (hangs_yes pB (q:=q) (by rw[<-zB];exact hz));have HI:=hide hinv;clear hinv gY cF zB hG;go_wp2_with fail;go_ret;exact⟨by rw[ad HR];rfl,(ad HI).below⟩
     | false=>
      have zB:z≠q:=λ e=>by rw[e] at hq;simp at hq
      have EB:=hide zB;clear zB;have gP:=hinv.map;have Gd:(metV met z).getD (.agg #[])=.agg #[]:=by unfold metV;split <;> rfl
      cases hm:isMet met z with
      | true=>
       have mC:(metV met z).isSome=true:=(by unfold metV;rw[if_pos hm];rfl);have HI:=hide (hinv.alloc (.cells #[] 299))
       have HD:=hide (show ∀ y∈(tgt E x).take (j+1),y≠q/\y∈met from λ y hy=>by
        rw[ad fU] at hy;rcases List.mem_append.1 hy with hy | hy
        ·exact cF y hy
        ·simp at hy;subst hy;exact⟨ad EB,bW.1 hm⟩)
       have HS:=hide gY;clear hinv cF gY hm;go_wp2_with (first | (at_lookup;refine wp_look_ok _ rfl _ _ 298 rfl 9 299 Tryz.underlying9 Tryz.underlying298 (Tryz.zeroValue299 _) w.heap.size met.length (metV met) rfl gP z rfl vV _ Gd _ mC ?_));go_roundg ((tgt E x).length-(j+1));exact⟨j+1,st,met,by omega,rfl,by go_num,hG,yR,qo,ad HS,ad HI,ad HD⟩;omega
      | false=>
       have mC:(metV met z).isSome=false:=(by unfold metV;rw[hm];rfl);have hcp:=cnt_put Gt hm;have od:=hinv.alloc (.cells #[] 299);have sC:=od.map;have HI:=hide od;have HS:=hide (gY.push pB hz);have qv:=hide cF;have lJ:st.length<=1000:=(by omega);clear hinv gY hm od cF;go_wp2_with (first | (at_lookup;refine wp_look_ok _ rfl _ _ 298 rfl 9 299 Tryz.underlying9 Tryz.underlying298 (Tryz.zeroValue299 _) w.heap.size met.length (metV met) rfl gP z rfl vV _ Gd _ mC ?_) | (at_mapUpdate;refine wp_put _ rfl _ _ _ 298 rfl 9 299 Tryz.underlying9 Tryz.underlying298 w.heap.size met.length (metV met) rfl sC (by unfold maxLen;omega) z (.agg #[]) (by rfl) (by rfl) vV ?_));intro w3 ey yD;have jx:=(ad HI).put ey yD;have pO:=jx.sz;have bH:=jx.row.alloc (.cells #[.string z] 9);have ku:=hide (jx.alloc (.cells #[.string z] 9));clear ey yD gP sC HI jx;go_wp2_with (at_builtin;refine wpList_append_own _ rfl _ _ 33 rfl (w.heap.size+1) 9 i0 _ 1 16 Tryz.underlying33 hi dK ir bZ rfl (by decide) _ _ _ rfl bH ⟨w3.heap.size,0,none⟩ 1 1 [.string z] rfl rfl (str_cell1 w3 _) (str_one _) (by unfold maxLen;omega) (by omega) (by simp;omega) ?_);intro v5 w5 dm dz jv;clear jv;obtain⟨a5,gz,rfl⟩:=own_slice dm;have r7:=(ad ku).push dm dz;have mj:=hide r7;clear dm dz bH r7 ku;go_wp2_with fail;go_roundg ((tgt E x).length-(j+1))
       case measure=>omega
       case rel=>
        refine⟨j+1,st++[z],met++[z],by omega,rfl,by go_num,by simp;omega,by simp;omega,λ y hy=>?_,ad HS,?_,λ y hy=>?_⟩
        ·rcases List.mem_append.1 hy with hy | hy
         ·exact qo y hy
         ·simp at hy;subst hy;exact Gp
        ·have:=ad mj;simpa using this
        ·rw[ad fU] at hy;rcases List.mem_append.1 hy with hy | hy
         ·exact⟨(ad qv y hy).1,by simp[(ad qv y hy).2]⟩
         ·simp at hy;subst hy;exact⟨ad EB,by simp⟩
    ·have HS:=hide (gY.drop (λ z hz=>cF z (by rw[List.take_of_length_le (by omega)];exact hz)));have HI:=hide hinv;clear hinv gY cF;go_wp2_with fail;go_roundg G;exact⟨st,met,hG,by omega,yR,qo,ad HS,ad HI⟩;exact IV
end
end Go.Proofs.YtldkpahaocjdpaaGreat
