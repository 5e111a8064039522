/-
  Plain: what hangs on what, by the links; a search's stack and what it has met.
-/
import Derived.Test.YtldkpahaocjdpaaGreatD14
set_option maxHeartbeats 16000000
set_option maxRecDepth 1000000
namespace Go.Proofs.YtldkpahaocjdpaaGreat
section
open Go.RowKit Go.Maps
inductive zdj (E:List zha):B8->B8->Prop where
 | one {a b:B8} (h:(a,b)∈E):zdj E a b
 | next {a b c:B8} (t:zdj E a b) (h:(b,c)∈E):zdj E a c
open Classical in
noncomputable def zeu (E:List zha)(p q:B8):Bool:=decide (zdj E p q)
variable {p x:B8} {E:List zha}
theorem zpq:x∈tgt E p↔(p,x)∈E:=by
 unfold tgt
 constructor
 ·intro h;obtain⟨e,he,rfl⟩:=List.mem_map.1 h;obtain⟨h1,h2⟩:=List.mem_filter.1 he;have:e.1=p:=zU.1 h2;rw[<-this];exact h1
 ·intro h;exact List.mem_map.2 ⟨(p,x),List.mem_filter.2 ⟨h,by simp⟩,rfl⟩
def zcm (met:List B8)(x:B8):Bool:=met.any λ m=>m.toList==x.toList
variable {met:List B8}
theorem j3:zcm met x=true↔x∈met:=by
 unfold zcm;rw[List.any_eq_true]
 constructor
 ·rintro⟨m,hm,h⟩;rw[<-zU.1 h];exact hm
 ·intro h;exact⟨x,h,by simp⟩
def zt6 (met:List B8):B8->Option Value:=λ k=>if zcm met k then some (.agg #[]) else none
theorem z6s (met:List B8)(x:B8):zzi (zt6 met) x (.agg #[])=zt6 (met++[x]):=by
 funext k
 by_cases e:k=x
 ·subst e;rw[zal];unfold zt6;rw[if_pos (j3.2 (by simp))]
 ·rw[jR e];unfold zt6
  by_cases h:zcm met k=true
  ·rw[if_pos h,if_pos (j3.2 (by have:=j3.1 h;simp[this]))]
  ·rw[if_neg h,if_neg (λ h2=>by
    have:=j3.1 h2;simp at this;rcases this with h3 | h3
    ·exact h (j3.2 h3)
    ·exact e h3)]
def dF (E:List zha)(met:List B8):Nat:=(E.filter λ e=>!zcm met e.2).length
theorem zvn (met:List B8)(x:B8):∀ (l:List zha),(l.filter λ e=>!zcm (met++[x]) e.2).length<=(l.filter λ e=>!zcm met e.2).length
 | []=>Nat.le_refl _
 | e::r=>by
  have ih:=zvn met x r;have mono:zcm met e.2=true->zcm (met++[x]) e.2=true:=λ h=>j3.2 (by have:=j3.1 h;simp[this])
  simp only[List.filter_cons]
  cases h2:zcm met e.2 with
  | true=>rw[mono h2];simpa using ih
  | false=>
   cases h3:zcm (met++[x]) e.2 with
   | true=>simp;omega
   | false=>simp;omega
theorem zvm {met:List B8}{x y:B8}(hn:zcm met x=false):∀ (l:List zha),(y,x)∈l->(l.filter λ e=>!zcm (met++[x]) e.2).length+1<=(l.filter λ e=>!zcm met e.2).length
 | [],h=>by cases h
 | e::r,h=>by
  have mono:zcm met e.2=true->zcm (met++[x]) e.2=true:=λ h=>j3.2 (by have:=j3.1 h;simp[this])
  have h1:zcm (met++[x]) x=true:=j3.2 (by simp);simp only[List.filter_cons];rcases List.mem_cons.1 h with he | hr
  ·have:=zvn met x r;subst he;simp only[h1,hn,Bool.not_true,Bool.not_false,Bool.false_eq_true,if_false,if_true,List.length_cons];omega
  ·have ih:=zvm hn r hr
   cases h2:zcm met e.2 with
   | true=>rw[mono h2];simpa using ih
   | false=>
    cases h3:zcm (met++[x]) e.2 with
    | true=>simp;omega
    | false=>simp;omega
theorem z97 {y:B8}(h:(y,x)∈E)(hn:zcm met x=false):dF E (met++[x])+1<=dF E met:=zvm hn E h
structure lz (E:List zha)(p q:B8)(st met:List B8)(now:Option B8):Prop where
 onStack:∀ x∈st,x=p\/zdj E p x
 pU:∀ x∈met,zdj E p x
 done:∀ y,(y=p\/y∈met)->y∈st\/now=some y\/∀ z∈tgt E y,z≠q/\z∈met
theorem lz.start (E:List zha)(p q:B8):lz E p q [p] [] none:=
 ⟨λ x hx=>.inl (by simpa using hx),λ x hx=>(by cases hx),λ y hy=>.inl (by rcases hy with rfl | h;simp;cases h)⟩
variable {st:List B8} {q:B8}
theorem lz.pop (h:lz E p q (st++[x]) met none):lz E p q st met (some x)/\(x=p\/zdj E p x):=by
 refine⟨⟨λ y hy=>h.onStack y (by simp[hy]),h.pU,λ y hy=>?_⟩,h.onStack x (by simp)⟩;rcases h.done y hy with h1 | h1 | h1
 ·simp at h1;rcases h1 with h1 | h1
  ·exact .inl h1
  ·exact .inr (.inl (by rw[h1]))
 ·cases h1
 ·exact .inr (.inr h1)
variable {z:B8}
theorem znr (h:x=p\/zdj E p x)(hz:z∈tgt E x):zdj E p z:=by
 rcases h with rfl | h
 ·exact .one (zpq.1 hz)
 ·exact .next h (zpq.1 hz)
theorem lz.push (h:lz E p q st met (some x))(hx:x=p\/zdj E p x)(hz:z∈tgt E x):lz E p q (st++[z]) (met++[z]) (some x):=by
 have hr:=znr hx hz;refine⟨λ y hy=>?_,λ y hy=>?_,λ y hy=>?_⟩
 ·rcases List.mem_append.1 hy with hy | hy
  ·exact h.onStack y hy
  ·simp at hy;subst hy;exact .inr hr
 ·rcases List.mem_append.1 hy with hy | hy
  ·exact h.pU y hy
  ·simp at hy;subst hy;exact hr
 ·have I4:(y=p\/y∈met)\/y=z:=by
   rcases hy with hy | hy
   ·exact .inl (.inl hy)
   ·rcases List.mem_append.1 hy with hy | hy
    ·exact .inl (.inr hy)
    ·exact .inr (by simpa using hy)
  rcases I4 with hy | rfl
  ·rcases h.done y hy with h1 | h1 | h1
   ·exact .inl (by simp[h1])
   ·exact .inr (.inl h1)
   ·exact .inr (.inr λ u hu=>⟨(h1 u hu).1,by simp[(h1 u hu).2]⟩)
  ·exact .inl (by simp)
theorem lz.drop (h:lz E p q st met (some x))(hd:∀ z∈tgt E x,z≠q/\z∈met):lz E p q st met none:=by
 refine⟨h.onStack,h.pU,λ y hy=>?_⟩;rcases h.done y hy with h1 | h1 | h1
 ·exact .inl h1
 ·injection h1 with h1;subst h1;exact .inr (.inr hd)
 ·exact .inr (.inr h1)
theorem lz.ends (h:lz E p q [] met none):zeu E p q=false:=by
 have key:∀ x,zdj E p x->x≠q/\x∈met:=by
  intro x hx;have step:∀ y,(y=p\/y∈met)->∀ z,(y,z)∈E->z≠q/\z∈met:=λ y hy z hz=>by
   rcases h.done y hy with h1 | h1 | h1
   ·cases h1
   ·cases h1
   ·exact h1 z (zpq.2 hz)
  induction hx with
  | one h1=>exact step p (.inl rfl) _ h1
  | next t h1 ih=>exact step _ (.inr (ih).2) _ h1
 unfold zeu;simp only[decide_eq_false_iff_not];exact λ hr=>(key q hr).1 rfl
theorem z09 (h:x=p\/zdj E p x)(hq:q∈tgt E x):zeu E p q=true:=by
 unfold zeu;simp only[decide_eq_true_eq];exact znr h hq
variable {l:List B8} {base:Nat} {w:W8}
theorem ya3 {g cap:Nat}(h:w.ownsRow base 9 1 (.slice (some ⟨g,0,none⟩) (l++[x]).length cap) (l++[x]).length (dI (l++[x]))):w.ownsRow base 9 1 (.slice (some ⟨g,0,none⟩) l.length cap) l.length (dI l):=by
 rcases h.2 with⟨hv,_⟩ | ⟨g',oI,cur,hv,hb,dn,hn,hc,hs,ht⟩
 ·cases hv
 ·injection hv with h1 h2 h3
  injection h1 with h1
  injection h1 with h1
  subst h1 h3;refine⟨by simp[dI],.inr ⟨g,cap,cur,rfl,hb,dn,by simp at hn;omega,hc,hs,?_⟩⟩;have h4:=congrArg (List.take l.length) ht;rw[List.take_take] at h4;simp[dI] at h4 ⊢;exact h4
variable {v:Value}
theorem z60 (h:w.ownsRow base 9 1 v (l++[x]).length (dI (l++[x]))):∃ g cap,v=.slice (some ⟨g,0,none⟩) (l++[x]).length cap/\base<=g/\g<w.heap.size/\(l++[x]).length<=cap/\cap<=maxLen/\w.cell? ⟨g,l.length,none⟩=some (.string x):=by
 rcases h.2 with⟨_,h0⟩ | ⟨g,cap,cur,rfl,hb,dn,hn,hc,hs,ht⟩
 ·simp at h0
 ·refine⟨g,cap,rfl,hb,(Array.getElem?_eq_some_iff.1 dn).1,hn,hc,?_⟩;rw[h.cellAt l.length (by simp)];simp[dI]
theorem ya4 (h:w.ownsRow base 9 1 v l.length (dI l))(k:Nat)(hk:k<l.length):∃ g cap,v=.slice (some ⟨g,0,none⟩) l.length cap/\base<=g/\g<w.heap.size/\l.length<=cap/\cap<=maxLen/\w.cell? ⟨g,k,none⟩=some (.string l[k]):=by
 rcases h.2 with⟨_,h0⟩ | ⟨g,cap,cur,rfl,hb,dn,hn,hc,hs,ht⟩
 ·omega
 ·refine⟨g,cap,rfl,hb,(Array.getElem?_eq_some_iff.1 dn).1,hn,hc,?_⟩;rw[h.cellAt k (by omega)];simp[dI,hk]
end
section
open Go.RowKit Go.Maps
structure eV (w:W8)(st met:List B8)(v:Value)(wr:W8):Prop where
 row:wr.ownsRow (w.heap.size+1) 9 1 v st.length (dI st)
 map:qS Tryz.prog 9 wr w.heap.size met.length (zt6 met)
 below:Below w.heap.size w wr
 sz:w.heap.size<wr.heap.size
theorem eV.alloc {w:W8}{st met:List B8}{v:Value}{wr:W8}(h:eV w st met v wr)(o:Obj):eV w st met v (wr.alloc o):=
 have hs:=h.sz
 ⟨h.row.alloc o,h.map.alloc o,h.below.alloc (by omega) _,by simp;omega⟩
variable {x:B8} {wr w1 w:W8} {v:Value} {st met:List B8}
theorem eV.put (h:eV w st met v wr)(hm:qS Tryz.prog 9 w1 w.heap.size (met.length+1) (zzi (zt6 met) x (.agg #[])))(hg:wr.grownBy w1 (some w.heap.size)):eV w st (met++[x]) v w1:=by
 have hs:=h.sz;have hz:=hg.size;refine⟨zP h.row (λ g e=>hg.block g ((h.row.lt g e).2) (by have:=(h.row.lt g e).1;simp;omega)),?_,?_,by omega⟩
 ·rw[z6s] at hm;simpa using hm
 ·exact h.below.trans ⟨hg.os,hg.tape,hg.output,hg.size,λ i hi=>hg.block i (by omega) (by simp;omega)⟩
theorem eV.push {v':Value}(h:eV w st met v wr)(aI:w1.ownsRow (w.heap.size+1) 9 1 v' (st.length+1) (dI st++[.string x]))(hg:wr.grownBy w1 v.ownBlock):eV w (st++[x]) met v' w1:=by
 have hs:=h.sz;have hz:=hg.size;have hr:∀ g,v.ownBlock=some g->w.heap.size+1<=g:=λ g e=>(h.row.lt g e).1
 refine⟨by simpa[dI] using aI,h.map.block (hg.block _ hs (λ e=>by have:=hr _ e.symm;omega)),?_,by omega⟩;exact h.below.trans ⟨hg.os,hg.tape,hg.output,hg.size,λ i hi=>hg.block i (by omega) (λ e=>by have:=hr _ e.symm;omega)⟩
theorem z6g (w:W8)(p:B8):eV w [p] [] (.slice (some ⟨w.heap.size+1,0,none⟩) 1 1) ((w.alloc (.map #[] 0)).alloc (.cells #[.string p] 9)):=by
 refine⟨⟨by simp[dI],.inr ⟨w.heap.size+1,1,#[.string p],rfl,Nat.le_refl _,?_,Nat.le_refl _,by unfold maxLen;omega,by simp,by simp[dI]⟩⟩,?_,(B9.alloc L9 _).alloc (by simp) _,by simp;omega⟩
 ·have:=heap_alloc_new (w.alloc (.map #[] 0)) (.cells #[.string p] 9);rw[World.size_alloc] at this;exact this
 ·exact (qS.made Tryz.prog 9 w).alloc _
theorem zss (w1:W8)(x:B8)(j:Nat)(u:Value)(h:([Value.string x]:V8)[j]?=some u):(w1.alloc (Obj.cells #[.string x] 9)).cell? ((⟨w1.heap.size,0,none⟩:Addr).add j)=some u:=cell_one_new w1 _ _ j u h
theorem z96 (E:List zha):dF E []<=E.length:=List.length_filter_le _ _
theorem ztw (w:W8)(b n:Nat)(E:List zha)(V:B8->Option Value)(p q:B8)(h:Lk b n E V w)(hE:E.length<=1000)(eN:∀ e∈E,e.2.size<=800)(mJ:p.size<=800):
  Calls Tryz.prog 120 #[.map (some b),.string p,.string q] w λ e w'=>e=.returned (.bool (zeu E p q))/\Below w.heap.size w w':=by
 have bD:=@run_makeMap Tryz.prog;obtain⟨i0,hi,dK,cB,bZ⟩:=info_parts zbq;have h0:=z6g w p;have oW:=z96 E;have HL:=zC h;have sT:b<w.heap.size:=h.map.lt;clear h;go_enter Tryz.func120,Tryz.ntmps120;go_wp2_with fail
 go_loopg [8] (E.length+2) (λ gg v wr=>∃ (st met:List B8),st.length+dF E met<=gg/\st.length+dF E met<=E.length+1/\met.length+dF E met<=E.length/\(∀ x∈st,x.size<=800)/\lz E p q st met none/\eV w st met v wr)
 exact⟨[p],[],by simp;omega,by simp;omega,by simpa using oW,by simpa using mJ,lz.start E p q,h0⟩
 case round=>
  clear h0 oW;obtain⟨st,met,dn,um,LN,qo,gY,hinv⟩:=hrel;rcases List.eq_nil_or_concat st with rfl | ⟨fF,x,rfl⟩
  ·obtain⟨a1,c1,rfl⟩:=zE hinv.row;have HS:=zC gY.ends;have HI:=zC hinv;clear gY hinv;go_wp2_with fail;go_ret;exact⟨by rw[zA HS];rfl,(zA HI).below⟩
  ·rw[List.concat_eq_append] at dn um qo gY hinv;obtain⟨g,cap,rfl,iC,dp,dG,dx,dV⟩:=z60 hinv.row;have zh:=ya3 hinv.row;obtain⟨sL,pB⟩:=gY.pop;have hlen:((fF++[x]).length:Int)=(fF.length:Int)+1:=(by simp);have qh:(fF++[x]).length=fF.length+1:=(by simp);rw[qh] at dn um dG;have hx8:x.size<=800:=qo x (by simp);have LY:x.size<=maxLen:=(by unfold maxLen;omega);have zo:∀ y∈fF,y.size<=800:=λ y hy=>qo y (by simp[hy])
   have Fh:=(zA HL).below hinv.below;have hu:=Fh.at_ x;obtain⟨au,cu,sj⟩:=zE hu;have FK:=Fh.map;have Ka:=vV hu;unfold maxLen at dx Ka;have dw:eV w fF met (.slice (some ⟨g,0,none⟩) fF.length cap) wr:=⟨zh,hinv.map,hinv.below,hinv.sz⟩;have HU:=zC (show w.ownsRow (b+1) 9 1 (.slice au (tgt E x).length cu) (tgt E x).length (dI (tgt E x)) by rw[<-sj];exact (zA HL).at_ x);clear gY hinv zh Fh hu qo;rw[qh];go_wp2_with (first | (at_lookup;refine zcr _ rfl _ _ 224 rfl 9 33 Tryz.underlying9 Tryz.underlying224 (Tryz.zeroValue33 _) b n V rfl FK x rfl LY _ sj ?_));obtain⟨G,hG,IV,hGE⟩:∃ G,fF.length+dF E met<=G/\G<gk/\G<=E.length:=⟨_,Nat.le_refl _,by omega,by omega⟩;clear dn dV FK iC dp
   go_loopg [8,35] (tgt E x).length (λ gg2 v i wr=>∃ (j:Nat) (st met:List B8),j<=(tgt E x).length/\gg2=(tgt E x).length-j/\i=.int .i64 j/\st.length+dF E met<=G/\met.length+dF E met<=E.length/\(∀ y∈st,y.size<=800)/\lz E p q st met (some x)/\eV w st met v wr/\∀ z∈(tgt E x).take j,z≠q/\z∈met)
   exact⟨0,fF,met,Nat.zero_le _,rfl,rfl,hG,LN,zo,sL,dw,by simp⟩
   case round=>
    clear dw sL zo LN hG;obtain⟨j,st,met,hj,uo,rfl,hG,LN,qo,gY,hinv,cF⟩:=hrel;obtain⟨a1,c1,rfl⟩:=zE hinv.row
    by_cases ij:j<(tgt E x).length
    ·have hu:=zG (zA HU) hinv.below (λ g e=>((zA HU).lt g e).2);obtain⟨g',oI,uV,I6,Jn,JO,Jd,gD⟩:=ya4 hu j ij;injection uV with h1 h2 h3
     subst h1 h3;have hz:(tgt E x)[j]∈tgt E x:=List.getElem_mem ij;have Gt:=zpq.1 hz;have Gp:=eN _ Gt;simp only at Gp;have JR:(tgt E x)[j].size<=maxLen:=(by unfold maxLen;omega);have sP:(tgt E x).take (j+1)=(tgt E x).take j++[(tgt E x)[j]]:=List.take_succ_eq_append_getElem ij;have fU:=zC sP;clear hu sP;generalize AL:(tgt E x)[j]=z at *
     cases hq:z.toList==q.toList with
     | true=>
      have L3:z=q:=zU.1 hq;have HR:=zC (z09 pB (q:=q) (by rw[<-L3];exact hz));have HI:=zC hinv;clear hinv gY cF L3 hG;go_wp2_with fail;go_ret;exact⟨by rw[zA HR];rfl,(zA HI).below⟩
     | false=>
      have L3:z≠q:=λ e=>by rw[e] at hq;simp at hq
      have EB:=zC L3;clear L3;have cA:=hinv.map;have Gd:(zt6 met z).getD (.agg #[])=.agg #[]:=by unfold zt6;split <;> rfl
      cases hm:zcm met z with
      | true=>
       have mC:(zt6 met z).isSome=true:=(by unfold zt6;rw[if_pos hm];rfl);have HI:=zC (hinv.alloc (.cells #[] 299))
       have HD:=zC (show ∀ y∈(tgt E x).take (j+1),y≠q/\y∈met from λ y hy=>by
        rw[zA fU] at hy;rcases List.mem_append.1 hy with hy | hy
        ·exact cF y hy
        ·simp at hy;subst hy;exact⟨zA EB,j3.1 hm⟩)
       have HS:=zC gY;clear hinv cF gY hm;go_wp2_with (first | (at_lookup;refine vE _ rfl _ _ 298 rfl 9 299 Tryz.underlying9 Tryz.underlying298 (Tryz.zeroValue299 _) w.heap.size met.length (zt6 met) rfl cA z rfl JR _ Gd _ mC ?_));go_roundg ((tgt E x).length-(j+1));exact⟨j+1,st,met,by omega,rfl,by go_num,hG,LN,qo,zA HS,zA HI,zA HD⟩;omega
      | false=>
       have mC:(zt6 met z).isSome=false:=(by unfold zt6;rw[hm];rfl);have hcp:=z97 Gt hm;have od:=hinv.alloc (.cells #[] 299);have sC:=od.map;have HI:=zC od;have HS:=zC (gY.push pB hz);have qv:=zC cF;have lJ:st.length<=1000:=(by omega);clear hinv gY hm od cF;go_wp2_with (first | (at_lookup;refine vE _ rfl _ _ 298 rfl 9 299 Tryz.underlying9 Tryz.underlying298 (Tryz.zeroValue299 _) w.heap.size met.length (zt6 met) rfl cA z rfl JR _ Gd _ mC ?_) | (at_mapUpdate;refine zn7 _ rfl _ _ _ 298 rfl 9 299 Tryz.underlying9 Tryz.underlying298 w.heap.size met.length (zt6 met) rfl sC (by unfold maxLen;omega) z (.agg #[]) (by rfl) (by rfl) JR ?_));intro w3 ey LA;have jx:=(zA HI).put ey LA;have pO:=jx.sz;have bH:=jx.row.alloc (.cells #[.string z] 9);have ku:=zC (jx.alloc (.cells #[.string z] 9));clear ey LA cA sC HI jx;go_wp2_with (at_builtin;refine wpList_append_own _ rfl _ _ 33 rfl (w.heap.size+1) 9 i0 _ 1 16 Tryz.underlying33 hi dK cB bZ rfl (by decide) _ _ _ rfl bH ⟨w3.heap.size,0,none⟩ 1 1 [.string z] rfl rfl (zss w3 _) (zuu _) (by unfold maxLen;omega) (by omega) (by simp;omega) ?_);intro v5 w5 hown5 dz hne5;clear hne5;obtain⟨a5,gz,rfl⟩:=zE hown5;have r7:=(zA ku).push hown5 dz;have mj:=zC r7;clear hown5 dz bH r7 ku;go_wp2_with fail;go_roundg ((tgt E x).length-(j+1))
       case measure=>omega
       case rel=>
        refine⟨j+1,st++[z],met++[z],by omega,rfl,by go_num,by simp;omega,by simp;omega,λ y hy=>?_,zA HS,?_,λ y hy=>?_⟩
        ·rcases List.mem_append.1 hy with hy | hy
         ·exact qo y hy
         ·simp at hy;subst hy;exact Gp
        ·have:=zA mj;simpa using this
        ·rw[zA fU] at hy;rcases List.mem_append.1 hy with hy | hy
         ·exact⟨(zA qv y hy).1,by simp[(zA qv y hy).2]⟩
         ·simp at hy;subst hy;exact⟨zA EB,by simp⟩
    ·have HS:=zC (gY.drop (λ z hz=>cF z (by rw[List.take_of_length_le (by omega)];exact hz)));have HI:=zC hinv;clear hinv gY cF;go_wp2_with fail;go_roundg G;exact⟨st,met,hG,by omega,LN,qo,zA HS,zA HI⟩;exact IV
end
section
open Go.RowKit Go.Maps
def zjn (rs:List yG)(n:Nat):B8:=match rs[n]? with | some R=>R.pd | none=>{ data:=#[] }
noncomputable def z4x (rs:List yG)(M:yU):Bool:=M.neg&&(M.pd.toList==(zjn rs M.num).toList||zeu (xS rs) M.pd (zjn rs M.num))
noncomputable def j0 (rs:List yG):List yU->Int
 | []=>-1
 | M::r=>if z4x rs M then (M.start:Int) else j0 rs r
variable {rs:List yG}
theorem zto {ms:List (yU × Value)}{k:Nat}(h:k<ms.length):j0 rs ((ms.map (·.1)).drop k)=if z4x rs ms[k].1 then (ms[k].1.start:Int) else j0 rs ((ms.map (·.1)).drop (k+1)):=by
 rw[List.drop_eq_getElem_cons (by simpa using h),j0];simp
theorem zxp (h:∀ R∈rs,∀ l∈R.body,l.pd.size<=800):∀ e∈xS rs,e.2.size<=800:=by
 intro e he;obtain⟨R,hR,he⟩:=List.mem_flatMap.1 he;obtain⟨l,hl,rfl⟩:=List.mem_map.1 he;exact h R hR l hl
theorem z0w (h:∀ R∈rs,R.body.length<=3):(xS rs).length<=3*rs.length:=by
 induction rs with
 | nil=>simp[xS]
 | cons R r ih=>
  have h1:=ih (λ x hx=>h x (List.mem_cons_of_mem _ hx));have h2:=h R List.mem_cons_self;have e:xS (R::r)=zgb R.pd R.body++xS r:=by simp[xS]
  rw[e,List.length_append,List.length_cons];simp only[zgb,List.length_map];omega
structure Few (rs:List PR)(ms:List (yU × Value)):Prop where
 r30:rs.length<=30
 L7:ms.length<=1000
 b3:∀ r∈rs,r.bs.length<=3
 rpd:∀ r∈rs,r.R.pd.size<=800
 JY:∀ R∈rs.map (·.R),∀ l∈R.body,l.pd.size<=800
 KD:∀ x∈ms,x.1.pd.size<=800
 KF:∀ x∈ms,x.1.num<rs.length/\x.1.ts.length<=4
theorem ztp (w:W8)(base:Nat)(ar:O8)(cr:Nat)(rs:List PR)(am:O8)(cm:Nat)(ms:List (yU × Value))(h:aD w base (.slice ar rs.length cr) rs)(h':aC w base (.slice am ms.length cm) ms)(hf:Few rs ms):
  Calls Tryz.prog 77 #[.agg #[.slice ar rs.length cr,.slice am ms.length cm]] w λ e w'=>e=zij (j0 (rs.map (·.R)) (ms.map (·.1)))/\Below w.heap.size w w':=by
 obtain⟨rh,LM,cE,Dj,CU,C6,C8⟩:=hf;have IS:=zxp CU;have IT:(xS (rs.map (·.R))).length<=1000:=by
  have:=z0w (rs:=rs.map (·.R)) (λ R hR=>by
   obtain⟨r,hr,rfl⟩:=List.mem_map.1 hR;have h1:=cE r hr;have h2:=(h.each r hr).eq
   rw[<-h2];simpa using h1)
  simp at this;omega
 have h0:=ga.start h h';have Dk:=vV h.row;unfold maxLen at Dk;have Fb:=h0.rules;obtain⟨x1,ov⟩:=zB h0.box 1;clear h h';go_enter Tryz.func77,Tryz.ntmps77;go_wp2_with fail;refine (z1u _ base ar cr rs Fb Dj cE rh).mono ?_;rintro e w1 ⟨rfl,aT,cB,V,aN⟩;have h1:=h0.next aT;obtain⟨y1,DY⟩:=zB h1.box 1;rw[World.size_alloc] at aN cB ⊢;clear h0 Fb x1 ov aT;go_wp2_with fail
 go_loopg [15] ms.length (λ gg i wr=>∃ k:Nat,k<=ms.length/\gg=ms.length-k/\i=.int .i64 k/\ga w base (.slice ar rs.length cr) (.slice am ms.length cm) rs ms wr/\Lk (w.heap.size+1) (xS (rs.map (·.R))).length (xS (rs.map (·.R))) V wr/\j0 (rs.map (·.R)) (ms.map (·.1))=j0 (rs.map (·.R)) ((ms.map (·.1)).drop k))
 exact⟨0,Nat.zero_le _,rfl,rfl,h1,aN,rfl⟩
 case round=>
  clear h1 aN y1 DY cB;obtain⟨k,hk,fM,rfl,hinv,aN,bj⟩:=hrel;have HF:=zC bj;clear bj
  by_cases hlkk:k<ms.length
  ·have bK:=zC ((zA HF).trans (zto hlkk));obtain⟨g,cap,hv,iC,dp,dG,dx,hc⟩:=vL zt5 hinv.eh.row k hlkk;injection hv with h1 h2 h3
   subst h1 h3;obtain⟨ag,fJ,gU⟩:=zE (hinv.eh.each _ (List.getElem_mem hlkk));have q0:=hc 0 (by omega);have q1:=hc 1 (by omega);have q2:=hc 2 (by omega);have q3:=hc 3 (by omega);have q4:=hc 4 (by omega);have q5:=hc 5 (by omega);have q6:=hc 6 (by omega);have q7:=hc 7 (by omega);have q8:=hc 8 (by omega);have q9:=hc 9 (by omega);simp only[yU.cells,gU,Nat.add_zero,List.getElem?_cons_zero,List.getElem?_cons_succ] at q0 q1 q2 q3 q4 q5 q6 q7 q8 q9;obtain⟨je,jh⟩:=C8 _ (List.getElem_mem hlkk);obtain⟨gr,oJ,nM,oS,o5,pn,oY,fL⟩:=vL znq hinv.rules.row ms[k].1.num je;injection nM with h4 h5 h6
   subst h4 h6;have r0:=fL 0 (by omega);simp only[PR.cells,Nat.add_zero,List.getElem?_cons_zero] at r0;obtain⟨x0,ou⟩:=zB hinv.box 0;have bA:=(Below.refl wr.heap.size wr).alloc L9 (.cells #[.int .i64 ms[k].1.num,.bool ms[k].1.neg,.string ms[k].1.pd,.slice ag ms[k].1.ts.length fJ,.int .i64 ms[k].1.start,.int .i64 ms[k].1.place,.int .i64 (ms[k].1.pl 0),.int .i64 (ms[k].1.pl 1),.int .i64 (ms[k].1.pl 2),.int .i64 (ms[k].1.pl 3)] 221);have hI:=hinv.next bA;have hL:=aN.below bA;have nC:zjn (rs.map (·.R)) ms[k].1.num=rs[ms[k].1.num].R.pd:=by
    unfold zjn;rw[List.getElem?_map,List.getElem?_eq_getElem je];rfl
   have mJ:=C6 _ (List.getElem_mem hlkk);have hsz:=hinv.sz;have HI:=zC hI;clear hc fL HF hinv aN hI gU bA;have yv:z4x (rs.map (·.R)) ms[k].1=(ms[k].1.neg&&(ms[k].1.pd.toList==rs[ms[k].1.num].R.pd.toList||zeu (xS (rs.map (·.R))) ms[k].1.pd rs[ms[k].1.num].R.pd)):=(by unfold z4x;rw[nC]);rw[yv] at bK;clear nC yv
   cases eH:ms[k].1.neg with
   | false=>
    rw[eH] at bK q1 HI;have dE:=zC (show j0 (rs.map (·.R)) (ms.map (·.1))=j0 (rs.map (·.R)) ((ms.map (·.1)).drop (k+1)) from zA bK);rw[eH] at hL;have HL:=zC hL;clear bK eH hL;go_wp2_with fail;go_roundg (ms.length-(k+1));exact⟨k+1,by omega,rfl,by go_num,zA HI,zA HL,zA dE⟩;omega
   | true=>
    rw[eH] at bK q1 HI hL;have HN:=zC eH;clear eH
    cases heq:ms[k].1.pd.toList==rs[ms[k].1.num].R.pd.toList with
    | true=>
     rw[heq] at bK;have dE:=zC (show j0 (rs.map (·.R)) (ms.map (·.1))=(ms[k].1.start:Int) from zA bK);clear bK hL;go_wp2_with fail
     go_ret2
     refine⟨?_,(zA HI).below⟩;rw[zA dE];unfold zij;rw[if_pos (by omega)];simp
    | false=>
     rw[heq] at bK;go_wp2_with fail;refine (ztw _ (w.heap.size+1) _ (xS (rs.map (·.R))) V ms[k].1.pd rs[ms[k].1.num].R.pd hL IT IS mJ).mono ?_;rintro e w2 ⟨rfl,aU⟩;have bZ:=aU.size;rw[World.size_alloc] at bZ;have bE:(wr.alloc (.cells #[.int .i64 ms[k].1.num,.bool true,.string ms[k].1.pd,.slice ag ms[k].1.ts.length fJ,.int .i64 ms[k].1.start,.int .i64 ms[k].1.place,.int .i64 (ms[k].1.pl 0),.int .i64 (ms[k].1.pl 1),.int .i64 (ms[k].1.pl 2),.int .i64 (ms[k].1.pl 3)] 221)).heap[wr.heap.size]?=_:=heap_alloc_new wr _;have kY:=(aU.block wr.heap.size (by simp)).trans bE;obtain⟨z4,KK⟩:=zB kY 4;have fG:=zC ((zA HI).next aU);have p7:=zC (hL.below aU);clear q0 q1 q2 q3 q4 q5 q6 q7 q8 q9 r0 x0 ou hL HI bE kY
     cases hh:zeu (xS (rs.map (·.R))) ms[k].1.pd rs[ms[k].1.num].R.pd with
     | true=>
      rw[hh] at bK;have dE:=zC (show j0 (rs.map (·.R)) (ms.map (·.1))=(ms[k].1.start:Int) from zA bK);clear bK hh;go_wp2_with fail
      go_ret2
      refine⟨?_,(zA fG).below⟩;rw[zA dE];unfold zij;rw[if_pos (by omega)];simp
     | false=>
      rw[hh] at bK;have dE:=zC (show j0 (rs.map (·.R)) (ms.map (·.1))=j0 (rs.map (·.R)) ((ms.map (·.1)).drop (k+1)) from zA bK);clear bK hh z4 KK;go_wp2_with fail;go_roundg (ms.length-(k+1));exact⟨k+1,by omega,rfl,by go_num,zA fG,zA p7,zA dE⟩;omega
  ·have bK:=zC (show j0 (rs.map (·.R)) (ms.map (·.1))=-1 by rw[zA HF,List.drop_of_length_le (by simp;omega)];rfl);have HI:=zC hinv;clear HF hinv aN;go_wp2_with fail
   go_ret2
   exact⟨by rw[zA bK];rfl,(zA HI).below⟩
end
section
theorem zyt (s:B8)(f:Nat):∀ {p:Nat} {l:List (Bool × B8)} {pl:Nat->Nat},(zR s f p l pl).2.2.1.length<=l.length+f:=by
 induction f with
 | zero=>intro p l pl;simp[zR]
 | succ f ih=>
  intro p l pl;rw[zR]
  split
  ·split
   ·refine Nat.le_trans ih ?_;first | (simp;done) | (simp;omega)
   ·first | (simp;done) | (simp;omega)
  ·first | (simp;done) | (simp;omega)
theorem zkd {s:B8}{p q:Nat}{pd:B8}{ts:List (Bool × B8)}{pl:Nat->Nat}(h:yV s p=.yes q pd ts pl):pd.size<=s.size/\ts.length<=4:=by
 unfold yV at h
 by_cases c1:(zD s p).1=2
 ·rw[if_pos c1] at h
  by_cases c2:(zD s (zD s p).2.2).1=5
  ·rw[if_pos c2] at h
   by_cases c3:(zR s 4 (zD s (zD s p).2.2).2.2 [] (λ _=>0)).1=true
   ·rw[if_pos c3] at h;injection h with h1 h2 h3 h4
    subst h2 h3;refine⟨M8 s p,?_⟩;have:=zyt s 4 (p:=(zD s (zD s p).2.2).2.2) (l:=[]) (pl:=λ _=>0);simpa using this
   ·rw[if_neg c3] at h;cases h
  ·rw[if_neg c2] at h;injection h with h1 h2 h3 h4
   subst h2 h3;exact⟨M8 s p,by simp⟩
 ·rw[if_neg c1] at h;cases h
def OkM (s:B8)(M:yU):Prop:=M.pd.size<=s.size/\M.ts.length<=4
def OkL (s:B8)(L:yX):Prop:=L.pd.size<=s.size
def OkR (s:B8)(R:yG):Prop:=R.pd.size<=s.size/\R.body.length<=3/\∀ l∈R.body,OkL s l
theorem z67 (s:B8)(num f:Nat):∀ {p:Nat} {l:List yX} {ms:List yU},(∀ x∈l,OkL s x)->(∀ M∈ms,OkM s M)->(vB s num f p l ms).2.2.1.length<=l.length+f/\(∀ x∈(vB s num f p l ms).2.2.1,OkL s x)/\(∀ M∈(vB s num f p l ms).2.2.2,OkM s M):=by
 induction f with
 | zero=>intro p l ms hl hm;exact⟨by simp[vB],hl,hm⟩
 | succ f ih=>
  intro p l ms hl hm;rw[vB]
  cases hr:yV s (yB s p 4) with
  | no q=>exact⟨by simp,hl,hm⟩
  | yes q pd ts pl=>
   obtain⟨o1,o2⟩:=zkd hr;have mE:∀ x∈l++[dM s p pd ts],OkL s x:=λ x hx=>by
    rcases List.mem_append.1 hx with hx | hx
    ·exact hl x hx
    ·simp at hx;subst hx;exact o1
   have lY:∀ M∈ms++[dO s num p pd ts pl],OkM s M:=λ x hx=>by
    rcases List.mem_append.1 hx with hx | hx
    ·exact hm x hx
    ·simp at hx;subst hx;exact⟨o1,o2⟩
   simp only
   split
   ·obtain⟨a,b,c⟩:=ih (p:=(zD s q).2.2) mE lY;refine⟨Nat.le_trans a ?_,b,c⟩
    first | (simp;done) | (simp;omega)
   ·exact⟨by first | (simp;done) | (simp;omega),mE,lY⟩
variable {ms:List yU}
theorem z7g (s:B8)(num p:Nat)(hm:∀ M∈ms,OkM s M):OkR s (xG s num p ms).2.2.1/\∀ M∈(xG s num p ms).2.2.2,OkM s M:=by
 unfold xG
 cases hr:yV s p with
 | no q=>exact⟨⟨Nat.zero_le _,by simp,by simp⟩,hm⟩
 | yes q pd ts pl=>
  obtain⟨o1,o2⟩:=zkd hr;have lY:∀ M∈ms++[dc s num p pd ts pl],OkM s M:=λ x hx=>by
   rcases List.mem_append.1 hx with hx | hx
   ·exact hm x hx
   ·simp at hx;subst hx;exact⟨o1,o2⟩
  simp only
  split
  ·exact⟨⟨o1,by simp,by simp⟩,lY⟩
  ·split
   ·obtain⟨a,b,c⟩:=z67 s num 3 (p:=(zD s q).2.2) (l:=[]) (by simp) lY;exact⟨⟨o1,by simpa using a,b⟩,c⟩
   ·exact⟨⟨o1,by simp,by simp⟩,lY⟩
theorem z2z (s:B8)(f:Nat):∀ {p:Nat} {rs:List yG} {ms:List yU},(∀ R∈rs,OkR s R)->(∀ M∈ms,OkM s M)->(∀ R∈(vG s f p rs ms).2.2.1,OkR s R)/\(∀ M∈(vG s f p rs ms).2.2.2,OkM s M):=by
 induction f with
 | zero=>intro p rs ms hr hm;exact⟨hr,hm⟩
 | succ f ih=>
  intro p rs ms hr hm;obtain⟨o1,o2⟩:=z7g s rs.length p hm;rw[vG]
  split
  ·exact⟨hr,hm⟩
  ·split
   ·exact⟨hr,hm⟩
   ·split
    ·refine ih (λ R hR=>?_) o2;rcases List.mem_append.1 hR with hR | hR
     ·exact hr R hR
     ·simp at hR;subst hR;exact o1
    ·exact⟨hr,o2⟩
theorem z8a {n:Nat}{rs:List yN}(h:jU n rs ms):∀ M∈ms,n<=M.num/\M.num<n+rs.length:=by
 induction h with
 | nil n=>simp
 | cons h t ih=>
  intro M hM;rcases List.mem_append.1 hM with hM | hM
  ·obtain⟨q,_,q2,q3⟩:=h;rw[<-q2] at hM;obtain⟨x,hx,rfl⟩:=List.mem_map.1 hM;have:=(q3 x hx).num;simp;omega
  ·have:=ih M hM;simp;omega
theorem znp (s:B8)(hs:s.size<=800)(h:(zO s).1=true):(∀ R∈(zO s).2.2.1,R.pd.size<=800/\R.body.length<=3/\∀ l∈R.body,l.pd.size<=800)/\(∀ M∈(zO s).2.2.2,M.pd.size<=800/\M.ts.length<=4/\M.num<(zO s).2.2.1.length):=by
 obtain⟨o1,o2⟩:=z2z s 31 (p:=0) (rs:=[]) (ms:=[]) (by simp) (by simp);obtain⟨_,e2,e3⟩:=(zhw s).1 h;refine⟨λ R hR=>?_,λ M hM=>?_⟩
 ·obtain⟨a,b,c⟩:=o1 R hR;exact⟨Nat.le_trans a hs,b,λ l hl=>Nat.le_trans (c l hl) hs⟩
 ·obtain⟨a,b⟩:=o2 M hM;have:=(z8a e3 M hM).2;rw[e2];exact⟨Nat.le_trans a hs,b,by simpa using this⟩
end
section
open Go.RowKit Go.Maps
noncomputable def zcz (rs:List yG)(ms:List yU):Int × Int:=
 if 0<=zaq ms [] then (3,zaq ms []) else if 0<=vI rs ms then (4,vI rs ms) else if 0<=j0 rs ms then (5,j0 rs ms) else (0,0)
theorem z05 (w:W8)(base:Nat)(ar:O8)(cr:Nat)(rs:List PR)(am:O8)(cm:Nat)(ms:List (yU × Value))(h:aD w base (.slice ar rs.length cr) rs)(h':aC w base (.slice am ms.length cm) ms)(hf:Few rs ms):
  Calls Tryz.prog 46 #[.agg #[.slice ar rs.length cr,.slice am ms.length cm]] w λ e w'=>e=.returned (.tuple #[.int .i64 (zcz (rs.map (·.R)) (ms.map (·.1))).1,.int .i64 (zcz (rs.map (·.R)) (ms.map (·.1))).2])/\Below w.heap.size w w':=by
 have h0:=ga.start h h';have hF:zcz (rs.map (·.R)) (ms.map (·.1))=_:=zcz.eq_1 (rs.map (·.R)) (ms.map (·.1));have HF:=zC hF;clear h h' hF;go_enter Tryz.func46,Tryz.ntmps46;go_wp2_with fail;refine (zyg _ base ar rs.length cr am cm ms h0.eh hf.L7 hf.KD).mono ?_;rintro e w1 ⟨he,aT⟩;have h1:=h0.next aT;obtain⟨x0,ou⟩:=zB h1.box 0;obtain⟨x1,ov⟩:=zB h1.box 1;have uQ:=h1.sz;clear h0 aT
 by_cases c1:0<=zaq (ms.map (·.1)) []
 ·have fS:=zC ((zA HF).trans (if_pos c1));have iE:e=.returned (.tuple #[.int .i64 (zaq (ms.map (·.1)) []),.bool true]):=by rw[he];unfold zij;rw[if_pos c1];simp[c1]
  subst iE;have HB:=zC h1.below;clear HF he c1 h1;go_wp2_with fail
  go_ret2
  exact⟨by rw[zA fS];rfl,zA HB⟩
 ·have fS:=zC ((zA HF).trans (if_neg c1));have iE:e=.returned (.tuple #[.int .i64 0,.bool false]):=by rw[he];unfold zij;rw[if_neg c1];simp[c1]
  subst iE;clear HF he c1;go_wp2_with fail;refine (zuz _ base ar cr rs am cm ms h1.rules h1.eh hf.L7 hf.KF (λ r hr=>by have:=hf.b3 r hr;omega)).mono ?_;rintro e w2 ⟨he,aU⟩;have h2:=h1.next aU;clear h1 aU x0 x1 ou ov;obtain⟨x0,ou⟩:=zB h2.box 0;obtain⟨x1,ov⟩:=zB h2.box 1;have nK:=h2.sz
  by_cases c2:0<=vI (rs.map (·.R)) (ms.map (·.1))
  ·have bK:=zC ((zA fS).trans (if_pos c2));have iE:e=.returned (.tuple #[.int .i64 (vI (rs.map (·.R)) (ms.map (·.1))),.bool true]):=(by rw[he];unfold zij;rw[if_pos c2];simp[c2]);subst iE;have HB:=zC h2.below;clear fS he c2 h2;go_wp2_with fail
   go_ret2
   exact⟨by rw[zA bK];rfl,zA HB⟩
  ·have bK:=zC ((zA fS).trans (if_neg c2));have iE:e=.returned (.tuple #[.int .i64 0,.bool false]):=(by rw[he];unfold zij;rw[if_neg c2];simp[c2]);subst iE;clear fS he c2;go_wp2_with fail;refine (ztp _ base ar cr rs am cm ms h2.rules h2.eh hf).mono ?_;rintro e w3 ⟨he,cE⟩;have h3:=h2.next cE;have HB:=zC h3.below;clear h2 cE x0 x1 ou ov h3
   by_cases c3:0<=j0 (rs.map (·.R)) (ms.map (·.1))
   ·have dE:=zC ((zA bK).trans (if_pos c3));have iE:e=.returned (.tuple #[.int .i64 (j0 (rs.map (·.R)) (ms.map (·.1))),.bool true]):=(by rw[he];unfold zij;rw[if_pos c3];simp[c3]);subst iE;clear bK he c3;go_wp2_with fail
    go_ret2
    exact⟨by rw[zA dE];rfl,zA HB⟩
   ·have dE:=zC ((zA bK).trans (if_neg c3));have iE:e=.returned (.tuple #[.int .i64 0,.bool false]):=(by rw[he];unfold zij;rw[if_neg c3];simp[c3]);subst iE;clear bK he c3;go_wp2_with fail
    go_ret2
    exact⟨by rw[zA dE];rfl,zA HB⟩
noncomputable def zyl (s:B8):Bool × Int × Int:=
 if 800<s.size then (false,1,0)
 else if (zO s).1=false then (false,2,(zD s (zO s).2.1).2.1)
 else if (zcz (zO s).2.2.1 (zO s).2.2.2).1≠0 then (false,(zcz (zO s).2.2.1 (zO s).2.2.2).1,(zcz (zO s).2.2.1 (zO s).2.2.2).2)
 else (true,0,0)
def zm3 (w:W8)(base b:Nat)(rs:List PR):Prop:=∃ (a:O8) (c:Nat),w.heap[b]?=some (.cells #[.slice a rs.length c] 106 (0,0))/\base<=b/\aD w base (.slice a rs.length c) rs
def z44 (w:W8)(P:Bool × Int × Int)(rules:List yG)(e:Ending)(w':W8):Prop:=
 Below w.heap.size w w'/\(P.1=false->e=.returned (.tuple #[.pointer none,.int .i64 P.2.1,.int .i64 P.2.2])) /\
 (P.1=true->∃ (b:Nat) (rs:List PR),e=.returned (.tuple #[.pointer (some ⟨b,0,none⟩),.int .i64 P.2.1,.int .i64 P.2.2])/\zm3 w' w.heap.size b rs/\rs.map (·.R)=rules)
theorem zr8 (w:W8)(s:B8)(hs:s.size<=maxLen):
  Calls Tryz.prog 30 #[.string s] w (z44 w (zyl s) (zO s).2.2.1):=by
 have hP:zyl s=_:=zyl.eq_1 s;have HP:=zC hP;clear hP;unfold maxLen at hs
 by_cases c0:800<s.size
 ·have II:800<(s.size:Int):=by omega
  have vw:=zC ((zA HP).trans (if_pos c0));clear HP c0;go_enter Tryz.func30,Tryz.ntmps30;go_wp2_with fail
  go_ret3
  rw[zA vw];exact⟨Below.refl _ _,λ _=>rfl,λ e=>by cases e⟩
 ·have II:¬ 800<(s.size:Int):=by omega
  have vw:=zC ((zA HP).trans (if_neg c0));have qo:s.size<=800:=by omega
  clear HP c0;go_enter Tryz.func30,Tryz.ntmps30;go_wp2_with fail;refine (zyr _ s (by omega)).mono ?_;rintro e w1 ⟨aT,cP,eJ⟩
  cases c1:(zO s).1 with
  | false=>
   have iT:=zC ((zA vw).trans (if_pos c1));have he:=cP c1;subst he;clear cP eJ vw c1;go_wp2_with fail
   go_ret3
   rw[zA iT];exact⟨aT.alloc aT.size _,λ _=>rfl,λ e=>by cases e⟩
  | true=>
   have iT:=zC ((zA vw).trans (if_neg (by rw[c1];decide)));obtain⟨a,n,c,a',n',c',rs,ms,rfl,hR,IN,hM,eX,rh,LM⟩:=eJ c1;obtain⟨ar,cr,uW⟩:=zE hR.row;obtain⟨am,cm,Kb⟩:=zE hM.row;injection uW with h1 h2 h3
   injection Kb with h4 h5 h6
   subst h1 h2 h3 h4 h5 h6;obtain⟨o1,o2⟩:=znp s qo c1;rw[<-IN] at o1 o2;rw[<-eX] at o2;rw[<-IN,<-eX] at iT;have p9:=zC IN;have hf:Few rs ms:=by
    refine⟨rh,by omega,λ r hr=>?_,λ r hr=>(o1 _ (List.mem_map_of_mem hr)).1,λ R hR l hl=>(o1 R hR).2.2 l hl,λ x hx=>(o2 _ (List.mem_map_of_mem hx)).1,λ x hx=>?_⟩
    ·have h1:=(o1 _ (List.mem_map_of_mem hr)).2.1;have h2:=(hR.each r hr).eq;rw[<-h2] at h1;simpa using h1
    ·obtain⟨_,h2,h3⟩:=o2 _ (List.mem_map_of_mem hx);exact⟨by simpa using h3,h2⟩
   have kA:=(Below.refl w1.heap.size w1).alloc L9 (.cells #[.slice a rs.length c,.slice a' ms.length c'] 100);have MT:=hR.below kA;have E0:=hM.below kA;have da:(w1.alloc (.cells #[.slice a rs.length c,.slice a' ms.length c'] 100)).heap[w1.heap.size]?=_:=heap_alloc_new w1 _;have bq:=aT.size;have fu:=aT.trans (kA.mono bq);clear cP eJ vw c1 hR hM IN eX o1 o2 kA;go_wp2_with fail;refine (z05 _ w.heap.size a c rs a' c' ms MT E0 hf).mono ?_;rintro e w2 ⟨rfl,aU⟩;have bZ:=aU.size;rw[World.size_alloc] at bZ;have IZ:=MT.below aU;have eW:=(aU.block w1.heap.size (by simp)).trans da;have mx:=fu.trans (aU.mono (by simp;omega));obtain⟨x0,ou⟩:=zB eW 0;clear MT E0 da eW aU fu
   by_cases c2:(zcz (rs.map (·.R)) (ms.map (·.1))).1≠0
   ·have IJ:((zcz (rs.map (·.R)) (ms.map (·.1))).1 != 0)=true:=(by simpa using c2);have nX:=zC ((zA iT).trans (if_pos c2));clear iT c2;go_wp2_with fail
    go_ret3
    rw[zA nX];exact⟨mx,λ _=>rfl,λ e=>by cases e⟩
   ·have IJ:((zcz (rs.map (·.R)) (ms.map (·.1))).1 != 0)=false:=(by simpa using c2);have nX:=zC ((zA iT).trans (if_neg c2));clear iT c2;go_wp2_with fail
    go_ret3
    rw[zA nX];have kB:=(Below.refl w2.heap.size w2).alloc L9 (.cells #[.slice a rs.length c] 106);exact⟨mx.trans (kB.mono (by omega)),λ e=>(by cases e),λ _=>⟨w2.heap.size,rs,rfl,⟨a,c,heap_alloc_new w2 _,by omega,IZ.below kB⟩,zA p9⟩⟩
end
end Go.Proofs.YtldkpahaocjdpaaGreat
