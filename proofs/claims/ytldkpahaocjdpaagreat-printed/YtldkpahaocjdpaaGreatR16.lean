/-
  Plain: what hangs on what, by the links; a search's stack and what it has met.
-/
import Derived.Test.YtldkpahaocjdpaaGreatR15
set_option maxHeartbeats 16000000
set_option maxRecDepth 1000000
namespace Go.Proofs.YtldkpahaocjdpaaGreat
section
open Go.RowKit Go.Maps
inductive zdp (E:List zhh):B8->B8->Prop where
 | one {a b:B8} (h:(a,b)∈E):zdp E a b
 | next {a b c:B8} (t:zdp E a b) (h:(b,c)∈E):zdp E a c
open Classical in
noncomputable def ze3 (E:List zhh)(p q:B8):Bool:=decide (zdp E p q)
variable {p x:B8} {E:List zhh}
theorem zqv:x∈tgt E p↔(p,x)∈E:=by
 unfold tgt
 constructor
 ·intro h;obtain⟨e,he,rfl⟩:=List.mem_map.1 h;obtain⟨h1,h2⟩:=List.mem_filter.1 he;have:e.1=p:=yB.1 h2;rw[<-this];exact h1
 ·intro h;exact List.mem_map.2 ⟨(p,x),List.mem_filter.2 ⟨h,by simp⟩,rfl⟩
def zcr (met:List B8)(x:B8):Bool:=met.any λ m=>m.toList==x.toList
variable {met:List B8}
theorem j5:zcr met x=true↔x∈met:=by
 unfold zcr;rw[List.any_eq_true]
 constructor
 ·rintro⟨m,hm,h⟩;rw[<-yB.1 h];exact hm
 ·intro h;exact⟨x,h,by simp⟩
def zvn (met:List B8):B8->Option Value:=λ k=>if zcr met k then some (.agg #[]) else none
theorem z74 (met:List B8)(x:B8):z1c (zvn met) x (.agg #[])=zvn (met++[x]):=by
 funext k
 by_cases e:k=x
 ·subst e;rw[zal];unfold zvn;rw[if_pos (j5.2 (by simp))]
 ·rw[jR e];unfold zvn
  by_cases h:zcr met k=true
  ·rw[if_pos h,if_pos (j5.2 (by have:=j5.1 h;simp[this]))]
  ·rw[if_neg h,if_neg (λ h2=>by
    have:=j5.1 h2;simp at this;rcases this with h3 | h3
    ·exact h (j5.2 h3)
    ·exact e h3)]
def dF (E:List zhh)(met:List B8):Nat:=(E.filter λ e=>!zcr met e.2).length
theorem zw9 (met:List B8)(x:B8):∀ (l:List zhh),(l.filter λ e=>!zcr (met++[x]) e.2).length<=(l.filter λ e=>!zcr met e.2).length
 | []=>Nat.le_refl _
 | e::r=>by
  have ih:=zw9 met x r;have mono:zcr met e.2=true->zcr (met++[x]) e.2=true:=λ h=>j5.2 (by have:=j5.1 h;simp[this])
  simp only[List.filter_cons]
  cases h2:zcr met e.2 with
  | true=>rw[mono h2];simpa using ih
  | false=>
   cases h3:zcr (met++[x]) e.2 with
   | true=>simp;omega
   | false=>simp;omega
theorem zw8 {met:List B8}{x y:B8}(hn:zcr met x=false):∀ (l:List zhh),(y,x)∈l->(l.filter λ e=>!zcr (met++[x]) e.2).length+1<=(l.filter λ e=>!zcr met e.2).length
 | [],h=>by cases h
 | e::r,h=>by
  have mono:zcr met e.2=true->zcr (met++[x]) e.2=true:=λ h=>j5.2 (by have:=j5.1 h;simp[this])
  have h1:zcr (met++[x]) x=true:=j5.2 (by simp);simp only[List.filter_cons];rcases List.mem_cons.1 h with he | hr
  ·have:=zw9 met x r;subst he;simp only[h1,hn,Bool.not_true,Bool.not_false,Bool.false_eq_true,if_false,if_true,List.length_cons];omega
  ·have ih:=zw8 hn r hr
   cases h2:zcr met e.2 with
   | true=>rw[mono h2];simpa using ih
   | false=>
    cases h3:zcr (met++[x]) e.2 with
    | true=>simp;omega
    | false=>simp;omega
theorem ybl {y:B8}(h:(y,x)∈E)(hn:zcr met x=false):dF E (met++[x])+1<=dF E met:=zw8 hn E h
structure lz (E:List zhh)(p q:B8)(st met:List B8)(now:Option B8):Prop where
 onStack:∀ x∈st,x=p\/zdp E p x
 pU:∀ x∈met,zdp E p x
 done:∀ y,(y=p\/y∈met)->y∈st\/now=some y\/∀ z∈tgt E y,z≠q/\z∈met
theorem lz.start (E:List zhh)(p q:B8):lz E p q [p] [] none:=
 ⟨λ x hx=>.inl (by simpa using hx),λ x hx=>(by cases hx),λ y hy=>.inl (by rcases hy with rfl | h;simp;cases h)⟩
variable {st:List B8} {q:B8}
theorem lz.pop (h:lz E p q (st++[x]) met none):lz E p q st met (some x)/\(x=p\/zdp E p x):=by
 refine⟨⟨λ y hy=>h.onStack y (by simp[hy]),h.pU,λ y hy=>?_⟩,h.onStack x (by simp)⟩;rcases h.done y hy with h1 | h1 | h1
 ·simp at h1;rcases h1 with h1 | h1
  ·exact .inl h1
  ·exact .inr (.inl (by rw[h1]))
 ·cases h1
 ·exact .inr (.inr h1)
variable {z:B8}
theorem zpd (h:x=p\/zdp E p x)(hz:z∈tgt E x):zdp E p z:=by
 rcases h with rfl | h
 ·exact .one (zqv.1 hz)
 ·exact .next h (zqv.1 hz)
theorem lz.push (h:lz E p q st met (some x))(hx:x=p\/zdp E p x)(hz:z∈tgt E x):lz E p q (st++[z]) (met++[z]) (some x):=by
 have hr:=zpd hx hz;refine⟨λ y hy=>?_,λ y hy=>?_,λ y hy=>?_⟩
 ·rcases List.mem_append.1 hy with hy | hy
  ·exact h.onStack y hy
  ·simp at hy;subst hy;exact .inr hr
 ·rcases List.mem_append.1 hy with hy | hy
  ·exact h.pU y hy
  ·simp at hy;subst hy;exact hr
 ·have K5:(y=p\/y∈met)\/y=z:=by
   rcases hy with hy | hy
   ·exact .inl (.inl hy)
   ·rcases List.mem_append.1 hy with hy | hy
    ·exact .inl (.inr hy)
    ·exact .inr (by simpa using hy)
  rcases K5 with hy | rfl
  ·rcases h.done y hy with h1 | h1 | h1
   ·exact .inl (by simp[h1])
   ·exact .inr (.inl h1)
   ·exact .inr (.inr λ u hu=>⟨(h1 u hu).1,by simp[(h1 u hu).2]⟩)
  ·exact .inl (by simp)
theorem lz.drop (h:lz E p q st met (some x))(hd:∀ z∈tgt E x,z≠q/\z∈met):lz E p q st met none:=by
 refine⟨h.onStack,h.pU,λ y hy=>?_⟩;rcases h.done y hy with h1 | h1 | h1
 ·exact .inl h1
 ·injection h1 with h1;subst h1;exact .inr (.inr hd)
 ·exact .inr (.inr h1)
theorem lz.ends (h:lz E p q [] met none):ze3 E p q=false:=by
 have key:∀ x,zdp E p x->x≠q/\x∈met:=by
  intro x hx;have step:∀ y,(y=p\/y∈met)->∀ z,(y,z)∈E->z≠q/\z∈met:=λ y hy z hz=>by
   rcases h.done y hy with h1 | h1 | h1
   ·cases h1
   ·cases h1
   ·exact h1 z (zqv.2 hz)
  induction hx with
  | one h1=>exact step p (.inl rfl) _ h1
  | next t h1 ih=>exact step _ (.inr (ih).2) _ h1
 unfold ze3;simp only[decide_eq_false_iff_not];exact λ hr=>(key q hr).1 rfl
theorem z2t (h:x=p\/zdp E p x)(hq:q∈tgt E x):ze3 E p q=true:=by
 unfold ze3;simp only[decide_eq_true_eq];exact zpd h hq
variable {l:List B8} {base:Nat} {w:W8}
theorem ycg {g cap:Nat}(h:w.ownsRow base 9 1 (.slice (some ⟨g,0,none⟩) (l++[x]).length cap) (l++[x]).length (dI (l++[x]))):w.ownsRow base 9 1 (.slice (some ⟨g,0,none⟩) l.length cap) l.length (dI l):=by
 rcases h.2 with⟨hv,_⟩ | ⟨g',oI,cur,hv,hb,dn,hn,hc,hs,ht⟩
 ·cases hv
 ·injection hv with h1 h2 h3
  injection h1 with h1
  injection h1 with h1
  subst h1 h3;refine⟨by simp[dI],.inr ⟨g,cap,cur,rfl,hb,dn,by simp at hn;omega,hc,hs,?_⟩⟩;have h4:=congrArg (List.take l.length) ht;rw[List.take_take] at h4;simp[dI] at h4 ⊢;exact h4
variable {v:Value}
theorem z8d (h:w.ownsRow base 9 1 v (l++[x]).length (dI (l++[x]))):∃ g cap,v=.slice (some ⟨g,0,none⟩) (l++[x]).length cap/\base<=g/\g<w.heap.size/\(l++[x]).length<=cap/\cap<=maxLen/\w.cell? ⟨g,l.length,none⟩=some (.string x):=by
 rcases h.2 with⟨_,h0⟩ | ⟨g,cap,cur,rfl,hb,dn,hn,hc,hs,ht⟩
 ·simp at h0
 ·refine⟨g,cap,rfl,hb,(Array.getElem?_eq_some_iff.1 dn).1,hn,hc,?_⟩;rw[h.cellAt l.length (by simp)];simp[dI]
theorem ych (h:w.ownsRow base 9 1 v l.length (dI l))(k:Nat)(hk:k<l.length):∃ g cap,v=.slice (some ⟨g,0,none⟩) l.length cap/\base<=g/\g<w.heap.size/\l.length<=cap/\cap<=maxLen/\w.cell? ⟨g,k,none⟩=some (.string l[k]):=by
 rcases h.2 with⟨_,h0⟩ | ⟨g,cap,cur,rfl,hb,dn,hn,hc,hs,ht⟩
 ·omega
 ·refine⟨g,cap,rfl,hb,(Array.getElem?_eq_some_iff.1 dn).1,hn,hc,?_⟩;rw[h.cellAt k (by omega)];simp[dI,hk]
end
section
open Go.RowKit Go.Maps
structure fQ (w:W8)(st met:List B8)(v:Value)(wr:W8):Prop where
 row:wr.ownsRow (w.heap.size+1) 9 1 v st.length (dI st)
 map:qQ Tryz.prog 9 wr w.heap.size met.length (zvn met)
 below:Below w.heap.size w wr
 sz:w.heap.size<wr.heap.size
theorem fQ.alloc {w:W8}{st met:List B8}{v:Value}{wr:W8}(h:fQ w st met v wr)(o:Obj):fQ w st met v (wr.alloc o):=
 have hs:=h.sz
 ⟨h.row.alloc o,h.map.alloc o,h.below.alloc (by omega) _,by simp;omega⟩
variable {x:B8} {wr w1 w:W8} {v:Value} {st met:List B8}
theorem fQ.put (h:fQ w st met v wr)(hm:qQ Tryz.prog 9 w1 w.heap.size (met.length+1) (z1c (zvn met) x (.agg #[])))(hg:wr.grownBy w1 (some w.heap.size)):fQ w st (met++[x]) v w1:=by
 have hs:=h.sz;have hz:=hg.size;refine⟨zQ h.row (λ g e=>hg.block g ((h.row.lt g e).2) (by have:=(h.row.lt g e).1;simp;omega)),?_,?_,by omega⟩
 ·rw[z74] at hm;simpa using hm
 ·exact h.below.trans ⟨hg.os,hg.tape,hg.output,hg.size,λ i hi=>hg.block i (by omega) (by simp;omega)⟩
theorem fQ.push {v':Value}(h:fQ w st met v wr)(aI:w1.ownsRow (w.heap.size+1) 9 1 v' (st.length+1) (dI st++[.string x]))(hg:wr.grownBy w1 v.ownBlock):fQ w (st++[x]) met v' w1:=by
 have hs:=h.sz;have hz:=hg.size;have hr:∀ g,v.ownBlock=some g->w.heap.size+1<=g:=λ g e=>(h.row.lt g e).1
 refine⟨by simpa[dI] using aI,h.map.block (hg.block _ hs (λ e=>by have:=hr _ e.symm;omega)),?_,by omega⟩;exact h.below.trans ⟨hg.os,hg.tape,hg.output,hg.size,λ i hi=>hg.block i (by omega) (λ e=>by have:=hr _ e.symm;omega)⟩
theorem z7q (w:W8)(p:B8):fQ w [p] [] (.slice (some ⟨w.heap.size+1,0,none⟩) 1 1) ((w.alloc (.map #[] 0)).alloc (.cells #[.string p] 9)):=by
 refine⟨⟨by simp[dI],.inr ⟨w.heap.size+1,1,#[.string p],rfl,Nat.le_refl _,?_,Nat.le_refl _,by unfold maxLen;omega,by simp,by simp[dI]⟩⟩,?_,(B9.alloc L9 _).alloc (by simp) _,by simp;omega⟩
 ·have:=heap_alloc_new (w.alloc (.map #[] 0)) (.cells #[.string p] 9);rw[World.size_alloc] at this;exact this
 ·exact (qQ.made Tryz.prog 9 w).alloc _
theorem zt7 (w1:W8)(x:B8)(j:Nat)(u:Value)(h:([Value.string x]:V8)[j]?=some u):(w1.alloc (Obj.cells #[.string x] 9)).cell? ((⟨w1.heap.size,0,none⟩:Addr).add j)=some u:=cell_one_new w1 _ _ j u h
theorem ybk (E:List zhh):dF E []<=E.length:=List.length_filter_le _ _
theorem zvb (w:W8)(b n:Nat)(E:List zhh)(V:B8->Option Value)(p q:B8)(h:Lk b n E V w)(hE:E.length<=1000)(eN:∀ e∈E,e.2.size<=800)(mJ:p.size<=800):
  Calls Tryz.prog 120 #[.map (some b),.string p,.string q] w λ e w'=>e=.returned (.bool (ze3 E p q))/\Below w.heap.size w w':=by
 have bz:=@run_makeMap Tryz.prog;obtain⟨i0,hi,dK,aj,bZ⟩:=info_parts zbt;have h0:=z7q w p;have oW:=ybk E;have HL:=zC h;have sT:b<w.heap.size:=h.map.lt;clear h;go_enter Tryz.func120,Tryz.ntmps120;go_wp2_with fail
 go_loopg [8] (E.length+2) (λ gg v wr=>∃ (st met:List B8),st.length+dF E met<=gg/\st.length+dF E met<=E.length+1/\met.length+dF E met<=E.length/\(∀ x∈st,x.size<=800)/\lz E p q st met none/\fQ w st met v wr)
 exact⟨[p],[],by simp;omega,by simp;omega,by simpa using oW,by simpa using mJ,lz.start E p q,h0⟩
 case round=>
  clear h0 oW;obtain⟨st,met,dn,um,Mg,qo,gY,hinv⟩:=hrel;rcases List.eq_nil_or_concat st with rfl | ⟨fF,x,rfl⟩
  ·obtain⟨a1,c1,rfl⟩:=zE hinv.row;have HS:=zC gY.ends;have HI:=zC hinv;clear gY hinv;go_wp2_with fail;go_ret;exact⟨by rw[zA HS];rfl,(zA HI).below⟩
  ·rw[List.concat_eq_append] at dn um qo gY hinv;obtain⟨g,cap,rfl,iC,dp,dG,dx,dV⟩:=z8d hinv.row;have zh:=ycg hinv.row;obtain⟨sL,pB⟩:=gY.pop;have hlen:((fF++[x]).length:Int)=(fF.length:Int)+1:=(by simp);have qh:(fF++[x]).length=fF.length+1:=(by simp);rw[qh] at dn um dG;have hx8:x.size<=800:=qo x (by simp);have zz:x.size<=maxLen:=(by unfold maxLen;omega);have zo:∀ y∈fF,y.size<=800:=λ y hy=>qo y (by simp[hy])
   have KR:=(zA HL).below hinv.below;have hu:=KR.at_ x;obtain⟨au,cu,sj⟩:=zE hu;have FK:=KR.map;have Ka:=vK hu;unfold maxLen at dx Ka;have dw:fQ w fF met (.slice (some ⟨g,0,none⟩) fF.length cap) wr:=⟨zh,hinv.map,hinv.below,hinv.sz⟩;have HU:=zC (show w.ownsRow (b+1) 9 1 (.slice au (tgt E x).length cu) (tgt E x).length (dI (tgt E x)) by rw[<-sj];exact (zA HL).at_ x);clear gY hinv zh KR hu qo;rw[qh];go_wp2_with (first | (at_lookup;refine zcv _ rfl _ _ 224 rfl 9 33 Tryz.underlying9 Tryz.underlying224 (Tryz.zeroValue33 _) b n V rfl FK x rfl zz _ sj ?_));obtain⟨G,hG,IV,hGE⟩:∃ G,fF.length+dF E met<=G/\G<gk/\G<=E.length:=⟨_,Nat.le_refl _,by omega,by omega⟩;clear dn dV FK iC dp
   go_loopg [8,35] (tgt E x).length (λ gg2 v i wr=>∃ (j:Nat) (st met:List B8),j<=(tgt E x).length/\gg2=(tgt E x).length-j/\i=.int .i64 j/\st.length+dF E met<=G/\met.length+dF E met<=E.length/\(∀ y∈st,y.size<=800)/\lz E p q st met (some x)/\fQ w st met v wr/\∀ z∈(tgt E x).take j,z≠q/\z∈met)
   exact⟨0,fF,met,Nat.zero_le _,rfl,rfl,hG,Mg,zo,sL,dw,by simp⟩
   case round=>
    clear dw sL zo Mg hG;obtain⟨j,st,met,hj,uo,rfl,hG,Mg,qo,gY,hinv,cF⟩:=hrel;obtain⟨a1,c1,rfl⟩:=zE hinv.row
    by_cases ij:j<(tgt E x).length
    ·have hu:=zG (zA HU) hinv.below (λ g e=>((zA HU).lt g e).2);obtain⟨g',oI,uV,I6,Jn,JO,Jd,gD⟩:=ych hu j ij;injection uV with h1 h2 h3
     subst h1 h3;have hz:(tgt E x)[j]∈tgt E x:=List.getElem_mem ij;have Gt:=zqv.1 hz;have Gp:=eN _ Gt;simp only at Gp;have K6:(tgt E x)[j].size<=maxLen:=(by unfold maxLen;omega);have sP:(tgt E x).take (j+1)=(tgt E x).take j++[(tgt E x)[j]]:=List.take_succ_eq_append_getElem ij;have fU:=zC sP;clear hu sP;generalize AL:(tgt E x)[j]=z at *
     cases hq:z.toList==q.toList with
     | true=>
      have Ms:z=q:=yB.1 hq;have HR:=zC (z2t pB (q:=q) (by rw[<-Ms];exact hz));have HI:=zC hinv;clear hinv gY cF Ms hG;go_wp2_with fail;go_ret;exact⟨by rw[zA HR];rfl,(zA HI).below⟩
     | false=>
      have Ms:z≠q:=λ e=>by rw[e] at hq;simp at hq
      have EB:=zC Ms;clear Ms;have aq:=hinv.map;have Gd:(zvn met z).getD (.agg #[])=.agg #[]:=by unfold zvn;split <;> rfl
      cases hm:zcr met z with
      | true=>
       have mC:(zvn met z).isSome=true:=(by unfold zvn;rw[if_pos hm];rfl);have HI:=zC (hinv.alloc (.cells #[] 299))
       have HD:=zC (show ∀ y∈(tgt E x).take (j+1),y≠q/\y∈met from λ y hy=>by
        rw[zA fU] at hy;rcases List.mem_append.1 hy with hy | hy
        ·exact cF y hy
        ·simp at hy;subst hy;exact⟨zA EB,j5.1 hm⟩)
       have HS:=zC gY;clear hinv cF gY hm;go_wp2_with (first | (at_lookup;refine vI _ rfl _ _ 298 rfl 9 299 Tryz.underlying9 Tryz.underlying298 (Tryz.zeroValue299 _) w.heap.size met.length (zvn met) rfl aq z rfl K6 _ Gd _ mC ?_));go_roundg ((tgt E x).length-(j+1));exact⟨j+1,st,met,by omega,rfl,by go_num,hG,Mg,qo,zA HS,zA HI,zA HD⟩;omega
      | false=>
       have mC:(zvn met z).isSome=false:=(by unfold zvn;rw[hm];rfl);have hcp:=ybl Gt hm;have od:=hinv.alloc (.cells #[] 299);have sC:=od.map;have HI:=zC od;have HS:=zC (gY.push pB hz);have qv:=zC cF;have lJ:st.length<=1000:=(by omega);clear hinv gY hm od cF;go_wp2_with (first | (at_lookup;refine vI _ rfl _ _ 298 rfl 9 299 Tryz.underlying9 Tryz.underlying298 (Tryz.zeroValue299 _) w.heap.size met.length (zvn met) rfl aq z rfl K6 _ Gd _ mC ?_) | (at_mapUpdate;refine zpu _ rfl _ _ _ 298 rfl 9 299 Tryz.underlying9 Tryz.underlying298 w.heap.size met.length (zvn met) rfl sC (by unfold maxLen;omega) z (.agg #[]) (by rfl) (by rfl) K6 ?_));intro w3 ey LX;have jx:=(zA HI).put ey LX;have pO:=jx.sz;have bH:=jx.row.alloc (.cells #[.string z] 9);have ku:=zC (jx.alloc (.cells #[.string z] 9));clear ey LX aq sC HI jx;go_wp2_with (at_builtin;refine wpList_append_own _ rfl _ _ 33 rfl (w.heap.size+1) 9 i0 _ 1 16 Tryz.underlying33 hi dK aj bZ rfl (by decide) _ _ _ rfl bH ⟨w3.heap.size,0,none⟩ 1 1 [.string z] rfl rfl (zt7 w3 _) (zwc _) (by unfold maxLen;omega) (by omega) (by simp;omega) ?_);intro v5 w5 ad dz aw;clear aw;obtain⟨a5,gz,rfl⟩:=zE ad;have r7:=(zA ku).push ad dz;have mj:=zC r7;clear ad dz bH r7 ku;go_wp2_with fail;go_roundg ((tgt E x).length-(j+1))
       case measure=>omega
       case rel=>
        refine⟨j+1,st++[z],met++[z],by omega,rfl,by go_num,by simp;omega,by simp;omega,λ y hy=>?_,zA HS,?_,λ y hy=>?_⟩
        ·rcases List.mem_append.1 hy with hy | hy
         ·exact qo y hy
         ·simp at hy;subst hy;exact Gp
        ·have:=zA mj;simpa using this
        ·rw[zA fU] at hy;rcases List.mem_append.1 hy with hy | hy
         ·exact⟨(zA qv y hy).1,by simp[(zA qv y hy).2]⟩
         ·simp at hy;subst hy;exact⟨zA EB,by simp⟩
    ·have HS:=zC (gY.drop (λ z hz=>cF z (by rw[List.take_of_length_le (by omega)];exact hz)));have HI:=zC hinv;clear hinv gY cF;go_wp2_with fail;go_roundg G;exact⟨st,met,hG,by omega,Mg,qo,zA HS,zA HI⟩;exact IV
end
section
open Go.RowKit Go.Maps
def zj0 (rs:List yH)(n:Nat):B8:=match rs[n]? with | some R=>R.pd | none=>{ data:=#[] }
noncomputable def z6i (rs:List yH)(M:yS):Bool:=M.neg&&(M.pd.toList==(zj0 rs M.num).toList||ze3 (xV rs) M.pd (zj0 rs M.num))
noncomputable def j3 (rs:List yH):List yS->Int
 | []=>-1
 | M::r=>if z6i rs M then (M.start:Int) else j3 rs r
variable {rs:List yH}
theorem zu4 {ms:List (yS × Value)}{k:Nat}(h:k<ms.length):j3 rs ((ms.map (·.1)).drop k)=if z6i rs ms[k].1 then (ms[k].1.start:Int) else j3 rs ((ms.map (·.1)).drop (k+1)):=by
 rw[List.drop_eq_getElem_cons (by simpa using h),j3];simp
theorem zzd (h:∀ R∈rs,∀ l∈R.body,l.pd.size<=800):∀ e∈xV rs,e.2.size<=800:=by
 intro e he;obtain⟨R,hR,he⟩:=List.mem_flatMap.1 he;obtain⟨l,hl,rfl⟩:=List.mem_map.1 he;exact h R hR l hl
theorem z2h (h:∀ R∈rs,R.body.length<=3):(xV rs).length<=3*rs.length:=by
 induction rs with
 | nil=>simp[xV]
 | cons R r ih=>
  have h1:=ih (λ x hx=>h x (List.mem_cons_of_mem _ hx));have h2:=h R List.mem_cons_self;have e:xV (R::r)=zgl R.pd R.body++xV r:=by simp[xV]
  rw[e,List.length_append,List.length_cons];simp only[zgl,List.length_map];omega
structure Few (rs:List PR)(ms:List (yS × Value)):Prop where
 r30:rs.length<=30
 Mw:ms.length<=1000
 b3:∀ r∈rs,r.bs.length<=3
 rpd:∀ r∈rs,r.R.pd.size<=800
 C9:∀ R∈rs.map (·.R),∀ l∈R.body,l.pd.size<=800
 KD:∀ x∈ms,x.1.pd.size<=800
 KF:∀ x∈ms,x.1.num<rs.length/\x.1.ts.length<=4
theorem zu5 (w:W8)(base:Nat)(ar:O8)(cr:Nat)(rs:List PR)(am:O8)(cm:Nat)(ms:List (yS × Value))(h:aD w base (.slice ar rs.length cr) rs)(h':aH w base (.slice am ms.length cm) ms)(hf:Few rs ms):
  Calls Tryz.prog 77 #[.agg #[.slice ar rs.length cr,.slice am ms.length cm]] w λ e w'=>e=zi2 (j3 (rs.map (·.R)) (ms.map (·.1)))/\Below w.heap.size w w':=by
 obtain⟨rh,Mf,cE,Dj,CU,C6,C8⟩:=hf;have IS:=zzd CU;have IT:(xV (rs.map (·.R))).length<=1000:=by
  have:=z2h (rs:=rs.map (·.R)) (λ R hR=>by
   obtain⟨r,hr,rfl⟩:=List.mem_map.1 hR;have h1:=cE r hr;have h2:=(h.each r hr).eq
   rw[<-h2];simpa using h1)
  simp at this;omega
 have h0:=gV.start h h';have Dk:=vK h.row;unfold maxLen at Dk;have Fb:=h0.rules;obtain⟨x1,ov⟩:=zB h0.box 1;clear h h';go_enter Tryz.func77,Tryz.ntmps77;go_wp2_with fail;refine (z3g _ base ar cr rs Fb Dj cE rh).mono ?_;rintro e w1 ⟨rfl,aT,aj,V,aN⟩;have h1:=h0.next aT;obtain⟨y1,DY⟩:=zB h1.box 1;rw[World.size_alloc] at aN aj ⊢;clear h0 Fb x1 ov aT;go_wp2_with fail
 go_loopg [15] ms.length (λ gg i wr=>∃ k:Nat,k<=ms.length/\gg=ms.length-k/\i=.int .i64 k/\gV w base (.slice ar rs.length cr) (.slice am ms.length cm) rs ms wr/\Lk (w.heap.size+1) (xV (rs.map (·.R))).length (xV (rs.map (·.R))) V wr/\j3 (rs.map (·.R)) (ms.map (·.1))=j3 (rs.map (·.R)) ((ms.map (·.1)).drop k))
 exact⟨0,Nat.zero_le _,rfl,rfl,h1,aN,rfl⟩
 case round=>
  clear h1 aN y1 DY aj;obtain⟨k,hk,fM,rfl,hinv,aN,bj⟩:=hrel;have HF:=zC bj;clear bj
  by_cases hlkk:k<ms.length
  ·have bK:=zC ((zA HF).trans (zu4 hlkk));obtain⟨g,cap,hv,iC,dp,dG,dx,hc⟩:=vE zvm hinv.eh.row k hlkk;injection hv with h1 h2 h3
   subst h1 h3;obtain⟨ag,fJ,gU⟩:=zE (hinv.eh.each _ (List.getElem_mem hlkk));have q0:=hc 0 (by omega);have q1:=hc 1 (by omega);have q2:=hc 2 (by omega);have q3:=hc 3 (by omega);have q4:=hc 4 (by omega);have q5:=hc 5 (by omega);have q6:=hc 6 (by omega);have q7:=hc 7 (by omega);have q8:=hc 8 (by omega);have q9:=hc 9 (by omega);simp only[yS.cells,gU,Nat.add_zero,List.getElem?_cons_zero,List.getElem?_cons_succ] at q0 q1 q2 q3 q4 q5 q6 q7 q8 q9;obtain⟨je,jh⟩:=C8 _ (List.getElem_mem hlkk);obtain⟨gr,oJ,nM,oS,o5,pn,oY,fL⟩:=vE zme hinv.rules.row ms[k].1.num je;injection nM with h4 h5 h6
   subst h4 h6;have r0:=fL 0 (by omega);simp only[PR.cells,Nat.add_zero,List.getElem?_cons_zero] at r0;obtain⟨x0,ou⟩:=zB hinv.box 0;have bA:=(Below.refl wr.heap.size wr).alloc L9 (.cells #[.int .i64 ms[k].1.num,.bool ms[k].1.neg,.string ms[k].1.pd,.slice ag ms[k].1.ts.length fJ,.int .i64 ms[k].1.start,.int .i64 ms[k].1.place,.int .i64 (ms[k].1.pl 0),.int .i64 (ms[k].1.pl 1),.int .i64 (ms[k].1.pl 2),.int .i64 (ms[k].1.pl 3)] 221);have hI:=hinv.next bA;have hL:=aN.below bA;have nC:zj0 (rs.map (·.R)) ms[k].1.num=rs[ms[k].1.num].R.pd:=by
    unfold zj0;rw[List.getElem?_map,List.getElem?_eq_getElem je];rfl
   have mJ:=C6 _ (List.getElem_mem hlkk);have hsz:=hinv.sz;have HI:=zC hI;clear hc fL HF hinv aN hI gU bA;have yv:z6i (rs.map (·.R)) ms[k].1=(ms[k].1.neg&&(ms[k].1.pd.toList==rs[ms[k].1.num].R.pd.toList||ze3 (xV (rs.map (·.R))) ms[k].1.pd rs[ms[k].1.num].R.pd)):=(by unfold z6i;rw[nC]);rw[yv] at bK;clear nC yv
   cases eH:ms[k].1.neg with
   | false=>
    rw[eH] at bK q1 HI;have dE:=zC (show j3 (rs.map (·.R)) (ms.map (·.1))=j3 (rs.map (·.R)) ((ms.map (·.1)).drop (k+1)) from zA bK);rw[eH] at hL;have HL:=zC hL;clear bK eH hL;go_wp2_with fail;go_roundg (ms.length-(k+1));exact⟨k+1,by omega,rfl,by go_num,zA HI,zA HL,zA dE⟩;omega
   | true=>
    rw[eH] at bK q1 HI hL;have HN:=zC eH;clear eH
    cases heq:ms[k].1.pd.toList==rs[ms[k].1.num].R.pd.toList with
    | true=>
     rw[heq] at bK;have dE:=zC (show j3 (rs.map (·.R)) (ms.map (·.1))=(ms[k].1.start:Int) from zA bK);clear bK hL;go_wp2_with fail
     go_ret2
     refine⟨?_,(zA HI).below⟩;rw[zA dE];unfold zi2;rw[if_pos (by omega)];simp
    | false=>
     rw[heq] at bK;go_wp2_with fail;refine (zvb _ (w.heap.size+1) _ (xV (rs.map (·.R))) V ms[k].1.pd rs[ms[k].1.num].R.pd hL IT IS mJ).mono ?_;rintro e w2 ⟨rfl,aU⟩;have bZ:=aU.size;rw[World.size_alloc] at bZ;have bD:(wr.alloc (.cells #[.int .i64 ms[k].1.num,.bool true,.string ms[k].1.pd,.slice ag ms[k].1.ts.length fJ,.int .i64 ms[k].1.start,.int .i64 ms[k].1.place,.int .i64 (ms[k].1.pl 0),.int .i64 (ms[k].1.pl 1),.int .i64 (ms[k].1.pl 2),.int .i64 (ms[k].1.pl 3)] 221)).heap[wr.heap.size]?=_:=heap_alloc_new wr _;have kY:=(aU.block wr.heap.size (by simp)).trans bD;obtain⟨z4,KK⟩:=zB kY 4;have fG:=zC ((zA HI).next aU);have p7:=zC (hL.below aU);clear q0 q1 q2 q3 q4 q5 q6 q7 q8 q9 r0 x0 ou hL HI bD kY
     cases hh:ze3 (xV (rs.map (·.R))) ms[k].1.pd rs[ms[k].1.num].R.pd with
     | true=>
      rw[hh] at bK;have dE:=zC (show j3 (rs.map (·.R)) (ms.map (·.1))=(ms[k].1.start:Int) from zA bK);clear bK hh;go_wp2_with fail
      go_ret2
      refine⟨?_,(zA fG).below⟩;rw[zA dE];unfold zi2;rw[if_pos (by omega)];simp
     | false=>
      rw[hh] at bK;have dE:=zC (show j3 (rs.map (·.R)) (ms.map (·.1))=j3 (rs.map (·.R)) ((ms.map (·.1)).drop (k+1)) from zA bK);clear bK hh z4 KK;go_wp2_with fail;go_roundg (ms.length-(k+1));exact⟨k+1,by omega,rfl,by go_num,zA fG,zA p7,zA dE⟩;omega
  ·have bK:=zC (show j3 (rs.map (·.R)) (ms.map (·.1))=-1 by rw[zA HF,List.drop_of_length_le (by simp;omega)];rfl);have HI:=zC hinv;clear HF hinv aN;go_wp2_with fail
   go_ret2
   exact⟨by rw[zA bK];rfl,(zA HI).below⟩
end
section
theorem z0j (s:B8)(f:Nat):∀ {p:Nat} {l:List (Bool × B8)} {pl:Nat->Nat},(zN s f p l pl).2.2.1.length<=l.length+f:=by
 induction f with
 | zero=>intro p l pl;simp[zN]
 | succ f ih=>
  intro p l pl;rw[zN]
  split
  ·split
   ·refine Nat.le_trans ih ?_;first | (simp;done) | (simp;omega)
   ·first | (simp;done) | (simp;omega)
  ·first | (simp;done) | (simp;omega)
theorem zh7 {s:B8}{p q:Nat}{pd:B8}{ts:List (Bool × B8)}{pl:Nat->Nat}(h:yK s p=.yes q pd ts pl):pd.size<=s.size/\ts.length<=4:=by
 unfold yK at h
 by_cases c1:(zD s p).1=2
 ·rw[if_pos c1] at h
  by_cases c2:(zD s (zD s p).2.2).1=5
  ·rw[if_pos c2] at h
   by_cases c3:(zN s 4 (zD s (zD s p).2.2).2.2 [] (λ _=>0)).1=true
   ·rw[if_pos c3] at h;injection h with h1 h2 h3 h4
    subst h2 h3;refine⟨Nb s p,?_⟩;have:=z0j s 4 (p:=(zD s (zD s p).2.2).2.2) (l:=[]) (pl:=λ _=>0);simpa using this
   ·rw[if_neg c3] at h;cases h
  ·rw[if_neg c2] at h;injection h with h1 h2 h3 h4
   subst h2 h3;exact⟨Nb s p,by simp⟩
 ·rw[if_neg c1] at h;cases h
def OkM (s:B8)(M:yS):Prop:=M.pd.size<=s.size/\M.ts.length<=4
def OkL (s:B8)(L:yR):Prop:=L.pd.size<=s.size
def OkR (s:B8)(R:yH):Prop:=R.pd.size<=s.size/\R.body.length<=3/\∀ l∈R.body,OkL s l
theorem z8j (s:B8)(num f:Nat):∀ {p:Nat} {l:List yR} {ms:List yS},(∀ x∈l,OkL s x)->(∀ M∈ms,OkM s M)->(xK s num f p l ms).2.2.1.length<=l.length+f/\(∀ x∈(xK s num f p l ms).2.2.1,OkL s x)/\(∀ M∈(xK s num f p l ms).2.2.2,OkM s M):=by
 induction f with
 | zero=>intro p l ms hl hm;exact⟨by simp[xK],hl,hm⟩
 | succ f ih=>
  intro p l ms hl hm;rw[xK]
  cases hr:yK s (z6 s p 4) with
  | no q=>exact⟨by simp,hl,hm⟩
  | yes q pd ts pl=>
   obtain⟨o1,o2⟩:=zh7 hr;have mE:∀ x∈l++[cY s p pd ts],OkL s x:=λ x hx=>by
    rcases List.mem_append.1 hx with hx | hx
    ·exact hl x hx
    ·simp at hx;subst hx;exact o1
   have lY:∀ M∈ms++[dO s num p pd ts pl],OkM s M:=λ x hx=>by
    rcases List.mem_append.1 hx with hx | hx
    ·exact hm x hx
    ·simp at hx;subst hx;exact⟨o1,o2⟩
   simp only
   split
   ·obtain⟨a,b,c⟩:=ih (p:=(zD s q).2.2) mE lY;refine⟨Nat.le_trans a ?_,b,c⟩
    first | (simp;done) | (simp;omega)
   ·exact⟨by first | (simp;done) | (simp;omega),mE,lY⟩
variable {ms:List yS}
theorem z8r (s:B8)(num p:Nat)(hm:∀ M∈ms,OkM s M):OkR s (yQ s num p ms).2.2.1/\∀ M∈(yQ s num p ms).2.2.2,OkM s M:=by
 unfold yQ
 cases hr:yK s p with
 | no q=>exact⟨⟨Nat.zero_le _,by simp,by simp⟩,hm⟩
 | yes q pd ts pl=>
  obtain⟨o1,o2⟩:=zh7 hr;have lY:∀ M∈ms++[dm s num p pd ts pl],OkM s M:=λ x hx=>by
   rcases List.mem_append.1 hx with hx | hx
   ·exact hm x hx
   ·simp at hx;subst hx;exact⟨o1,o2⟩
  simp only
  split
  ·exact⟨⟨o1,by simp,by simp⟩,lY⟩
  ·split
   ·obtain⟨a,b,c⟩:=z8j s num 3 (p:=(zD s q).2.2) (l:=[]) (by simp) lY;exact⟨⟨o1,by simpa using a,b⟩,c⟩
   ·exact⟨⟨o1,by simp,by simp⟩,lY⟩
theorem z4p (s:B8)(f:Nat):∀ {p:Nat} {rs:List yH} {ms:List yS},(∀ R∈rs,OkR s R)->(∀ M∈ms,OkM s M)->(∀ R∈(xJ s f p rs ms).2.2.1,OkR s R)/\(∀ M∈(xJ s f p rs ms).2.2.2,OkM s M):=by
 induction f with
 | zero=>intro p rs ms hr hm;exact⟨hr,hm⟩
 | succ f ih=>
  intro p rs ms hr hm;obtain⟨o1,o2⟩:=z8r s rs.length p hm;rw[xJ]
  split
  ·exact⟨hr,hm⟩
  ·split
   ·exact⟨hr,hm⟩
   ·split
    ·refine ih (λ R hR=>?_) o2;rcases List.mem_append.1 hR with hR | hR
     ·exact hr R hR
     ·simp at hR;subst hR;exact o1
    ·exact⟨hr,o2⟩
theorem z9g {n:Nat}{rs:List yT}(h:jT n rs ms):∀ M∈ms,n<=M.num/\M.num<n+rs.length:=by
 induction h with
 | nil n=>simp
 | cons h t ih=>
  intro M hM;rcases List.mem_append.1 hM with hM | hM
  ·obtain⟨q,_,q2,q3⟩:=h;rw[<-q2] at hM;obtain⟨x,hx,rfl⟩:=List.mem_map.1 hM;have:=(q3 x hx).num;simp;omega
  ·have:=ih M hM;simp;omega
theorem zpa (s:B8)(hs:s.size<=800)(h:(zJ s).1=true):(∀ R∈(zJ s).2.2.1,R.pd.size<=800/\R.body.length<=3/\∀ l∈R.body,l.pd.size<=800)/\(∀ M∈(zJ s).2.2.2,M.pd.size<=800/\M.ts.length<=4/\M.num<(zJ s).2.2.1.length):=by
 obtain⟨o1,o2⟩:=z4p s 31 (p:=0) (rs:=[]) (ms:=[]) (by simp) (by simp);obtain⟨_,e2,e3⟩:=(zh6 s).1 h;refine⟨λ R hR=>?_,λ M hM=>?_⟩
 ·obtain⟨a,b,c⟩:=o1 R hR;exact⟨Nat.le_trans a hs,b,λ l hl=>Nat.le_trans (c l hl) hs⟩
 ·obtain⟨a,b⟩:=o2 M hM;have:=(z9g e3 M hM).2;rw[e2];exact⟨Nat.le_trans a hs,b,by simpa using this⟩
end
section
open Go.RowKit Go.Maps
noncomputable def zc7 (rs:List yH)(ms:List yS):Int × Int:=
 if 0<=zaq ms [] then (3,zaq ms []) else if 0<=vM rs ms then (4,vM rs ms) else if 0<=j3 rs ms then (5,j3 rs ms) else (0,0)
theorem z2p (w:W8)(base:Nat)(ar:O8)(cr:Nat)(rs:List PR)(am:O8)(cm:Nat)(ms:List (yS × Value))(h:aD w base (.slice ar rs.length cr) rs)(h':aH w base (.slice am ms.length cm) ms)(hf:Few rs ms):
  Calls Tryz.prog 46 #[.agg #[.slice ar rs.length cr,.slice am ms.length cm]] w λ e w'=>e=.returned (.tuple #[.int .i64 (zc7 (rs.map (·.R)) (ms.map (·.1))).1,.int .i64 (zc7 (rs.map (·.R)) (ms.map (·.1))).2])/\Below w.heap.size w w':=by
 have h0:=gV.start h h';have hF:zc7 (rs.map (·.R)) (ms.map (·.1))=_:=zc7.eq_1 (rs.map (·.R)) (ms.map (·.1));have HF:=zC hF;clear h h' hF;go_enter Tryz.func46,Tryz.ntmps46;go_wp2_with fail;refine (zz3 _ base ar rs.length cr am cm ms h0.eh hf.Mw hf.KD).mono ?_;rintro e w1 ⟨he,aT⟩;have h1:=h0.next aT;obtain⟨x0,ou⟩:=zB h1.box 0;obtain⟨x1,ov⟩:=zB h1.box 1;have uQ:=h1.sz;clear h0 aT
 by_cases c1:0<=zaq (ms.map (·.1)) []
 ·have fS:=zC ((zA HF).trans (if_pos c1));have iE:e=.returned (.tuple #[.int .i64 (zaq (ms.map (·.1)) []),.bool true]):=by rw[he];unfold zi2;rw[if_pos c1];simp[c1]
  subst iE;have HB:=zC h1.below;clear HF he c1 h1;go_wp2_with fail
  go_ret2
  exact⟨by rw[zA fS];rfl,zA HB⟩
 ·have fS:=zC ((zA HF).trans (if_neg c1));have iE:e=.returned (.tuple #[.int .i64 0,.bool false]):=by rw[he];unfold zi2;rw[if_neg c1];simp[c1]
  subst iE;clear HF he c1;go_wp2_with fail;refine (zwn _ base ar cr rs am cm ms h1.rules h1.eh hf.Mw hf.KF (λ r hr=>by have:=hf.b3 r hr;omega)).mono ?_;rintro e w2 ⟨he,aU⟩;have h2:=h1.next aU;clear h1 aU x0 x1 ou ov;obtain⟨x0,ou⟩:=zB h2.box 0;obtain⟨x1,ov⟩:=zB h2.box 1;have nK:=h2.sz
  by_cases c2:0<=vM (rs.map (·.R)) (ms.map (·.1))
  ·have bK:=zC ((zA fS).trans (if_pos c2));have iE:e=.returned (.tuple #[.int .i64 (vM (rs.map (·.R)) (ms.map (·.1))),.bool true]):=(by rw[he];unfold zi2;rw[if_pos c2];simp[c2]);subst iE;have HB:=zC h2.below;clear fS he c2 h2;go_wp2_with fail
   go_ret2
   exact⟨by rw[zA bK];rfl,zA HB⟩
  ·have bK:=zC ((zA fS).trans (if_neg c2));have iE:e=.returned (.tuple #[.int .i64 0,.bool false]):=(by rw[he];unfold zi2;rw[if_neg c2];simp[c2]);subst iE;clear fS he c2;go_wp2_with fail;refine (zu5 _ base ar cr rs am cm ms h2.rules h2.eh hf).mono ?_;rintro e w3 ⟨he,cE⟩;have h3:=h2.next cE;have HB:=zC h3.below;clear h2 cE x0 x1 ou ov h3
   by_cases c3:0<=j3 (rs.map (·.R)) (ms.map (·.1))
   ·have dE:=zC ((zA bK).trans (if_pos c3));have iE:e=.returned (.tuple #[.int .i64 (j3 (rs.map (·.R)) (ms.map (·.1))),.bool true]):=(by rw[he];unfold zi2;rw[if_pos c3];simp[c3]);subst iE;clear bK he c3;go_wp2_with fail
    go_ret2
    exact⟨by rw[zA dE];rfl,zA HB⟩
   ·have dE:=zC ((zA bK).trans (if_neg c3));have iE:e=.returned (.tuple #[.int .i64 0,.bool false]):=(by rw[he];unfold zi2;rw[if_neg c3];simp[c3]);subst iE;clear bK he c3;go_wp2_with fail
    go_ret2
    exact⟨by rw[zA dE];rfl,zA HB⟩
noncomputable def zz8 (s:B8):Bool × Int × Int:=
 if 800<s.size then (false,1,0)
 else if (zJ s).1=false then (false,2,(zD s (zJ s).2.1).2.1)
 else if (zc7 (zJ s).2.2.1 (zJ s).2.2.2).1≠0 then (false,(zc7 (zJ s).2.2.1 (zJ s).2.2.2).1,(zc7 (zJ s).2.2.1 (zJ s).2.2.2).2)
 else (true,0,0)
def zky (w:W8)(base b:Nat)(rs:List PR):Prop:=∃ (a:O8) (c:Nat),w.heap[b]?=some (.cells #[.slice a rs.length c] 106 (0,0))/\base<=b/\aD w base (.slice a rs.length c) rs
def z6o (w:W8)(P:Bool × Int × Int)(rules:List yH)(e:Ending)(w':W8):Prop:=
 Below w.heap.size w w'/\(P.1=false->e=.returned (.tuple #[.pointer none,.int .i64 P.2.1,.int .i64 P.2.2])) /\
 (P.1=true->∃ (b:Nat) (rs:List PR),e=.returned (.tuple #[.pointer (some ⟨b,0,none⟩),.int .i64 P.2.1,.int .i64 P.2.2])/\zky w' w.heap.size b rs/\rs.map (·.R)=rules)
theorem zma (w:W8)(s:B8)(hs:s.size<=maxLen):
  Calls Tryz.prog 30 #[.string s] w (z6o w (zz8 s) (zJ s).2.2.1):=by
 have hP:zz8 s=_:=zz8.eq_1 s;have HP:=zC hP;clear hP;unfold maxLen at hs
 by_cases c0:800<s.size
 ·have II:800<(s.size:Int):=by omega
  have vw:=zC ((zA HP).trans (if_pos c0));clear HP c0;go_enter Tryz.func30,Tryz.ntmps30;go_wp2_with fail
  go_ret3
  rw[zA vw];exact⟨Below.refl _ _,λ _=>rfl,λ e=>by cases e⟩
 ·have II:¬ 800<(s.size:Int):=by omega
  have vw:=zC ((zA HP).trans (if_neg c0));have qo:s.size<=800:=by omega
  clear HP c0;go_enter Tryz.func30,Tryz.ntmps30;go_wp2_with fail;refine (z0g _ s (by omega)).mono ?_;rintro e w1 ⟨aT,cP,eJ⟩
  cases c1:(zJ s).1 with
  | false=>
   have iT:=zC ((zA vw).trans (if_pos c1));have he:=cP c1;subst he;clear cP eJ vw c1;go_wp2_with fail
   go_ret3
   rw[zA iT];exact⟨aT.alloc aT.size _,λ _=>rfl,λ e=>by cases e⟩
  | true=>
   have iT:=zC ((zA vw).trans (if_neg (by rw[c1];decide)));obtain⟨a,n,c,a',n',c',rs,ms,rfl,hR,KX,hM,eX,rh,Mf⟩:=eJ c1;obtain⟨ar,cr,uW⟩:=zE hR.row;obtain⟨am,cm,Kb⟩:=zE hM.row;injection uW with h1 h2 h3
   injection Kb with h4 h5 h6
   subst h1 h2 h3 h4 h5 h6;obtain⟨o1,o2⟩:=zpa s qo c1;rw[<-KX] at o1 o2;rw[<-eX] at o2;rw[<-KX,<-eX] at iT;have p9:=zC KX;have hf:Few rs ms:=by
    refine⟨rh,by omega,λ r hr=>?_,λ r hr=>(o1 _ (List.mem_map_of_mem hr)).1,λ R hR l hl=>(o1 R hR).2.2 l hl,λ x hx=>(o2 _ (List.mem_map_of_mem hx)).1,λ x hx=>?_⟩
    ·have h1:=(o1 _ (List.mem_map_of_mem hr)).2.1;have h2:=(hR.each r hr).eq;rw[<-h2] at h1;simpa using h1
    ·obtain⟨_,h2,h3⟩:=o2 _ (List.mem_map_of_mem hx);exact⟨by simpa using h3,h2⟩
   have kA:=(Below.refl w1.heap.size w1).alloc L9 (.cells #[.slice a rs.length c,.slice a' ms.length c'] 100);have LJ:=hR.below kA;have E0:=hM.below kA;have da:(w1.alloc (.cells #[.slice a rs.length c,.slice a' ms.length c'] 100)).heap[w1.heap.size]?=_:=heap_alloc_new w1 _;have bq:=aT.size;have fu:=aT.trans (kA.mono bq);clear cP eJ vw c1 hR hM KX eX o1 o2 kA;go_wp2_with fail;refine (z2p _ w.heap.size a c rs a' c' ms LJ E0 hf).mono ?_;rintro e w2 ⟨rfl,aU⟩;have bZ:=aU.size;rw[World.size_alloc] at bZ;have IZ:=LJ.below aU;have eW:=(aU.block w1.heap.size (by simp)).trans da;have mx:=fu.trans (aU.mono (by simp;omega));obtain⟨x0,ou⟩:=zB eW 0;clear LJ E0 da eW aU fu
   by_cases c2:(zc7 (rs.map (·.R)) (ms.map (·.1))).1≠0
   ·have IJ:((zc7 (rs.map (·.R)) (ms.map (·.1))).1 != 0)=true:=(by simpa using c2);have nX:=zC ((zA iT).trans (if_pos c2));clear iT c2;go_wp2_with fail
    go_ret3
    rw[zA nX];exact⟨mx,λ _=>rfl,λ e=>by cases e⟩
   ·have IJ:((zc7 (rs.map (·.R)) (ms.map (·.1))).1 != 0)=false:=(by simpa using c2);have nX:=zC ((zA iT).trans (if_neg c2));clear iT c2;go_wp2_with fail
    go_ret3
    rw[zA nX];have kB:=(Below.refl w2.heap.size w2).alloc L9 (.cells #[.slice a rs.length c] 106);exact⟨mx.trans (kB.mono (by omega)),λ e=>(by cases e),λ _=>⟨w2.heap.size,rs,rfl,⟨a,c,heap_alloc_new w2 _,by omega,IZ.below kB⟩,zA p9⟩⟩
end
end Go.Proofs.YtldkpahaocjdpaaGreat
