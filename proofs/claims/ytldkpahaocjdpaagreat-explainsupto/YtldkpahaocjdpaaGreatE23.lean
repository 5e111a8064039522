/-
  Plain: what hangs on what, by the links; a search's stack and what it has met.
-/
import Derived.Test.YtldkpahaocjdpaaGreatE22
set_option maxHeartbeats 16000000
set_option maxRecDepth 1000000
namespace Go.Proofs.YtldkpahaocjdpaaGreat
section
open Go.RowKit Go.Maps
inductive ze8 (E:List zhv):B8->B8->Prop where
 | one {a b:B8} (h:(a,b)∈E):ze8 E a b
 | next {a b c:B8} (t:ze8 E a b) (h:(b,c)∈E):ze8 E a c
open Classical in
noncomputable def zgt (E:List zhv)(p q:B8):Bool:=decide (ze8 E p q)
variable {p x:B8} {E:List zhv}
theorem zpp:x∈tgt E p↔(p,x)∈E:=by
 unfold tgt
 constructor
 ·intro h;obtain⟨e,he,rfl⟩:=List.mem_map.1 h;obtain⟨h1,h2⟩:=List.mem_filter.1 he;have:e.1=p:=xO.1 h2;rw[<-this];exact h1
 ·intro h;exact List.mem_map.2 ⟨(p,x),List.mem_filter.2 ⟨h,by simp⟩,rfl⟩
def zdn (met:List B8)(x:B8):Bool:=met.any λ m=>m.toList==x.toList
variable {met:List B8}
theorem qM:zdn met x=true↔x∈met:=by
 unfold zdn;rw[List.any_eq_true]
 constructor
 ·rintro⟨m,hm,h⟩;rw[<-xO.1 h];exact hm
 ·intro h;exact⟨x,h,by simp⟩
def zum (met:List B8):B8->Option Value:=λ k=>if zdn met k then some (.agg #[]) else none
theorem z7o (met:List B8)(x:B8):z0b (zum met) x (.agg #[])=zum (met++[x]):=by
 funext k
 by_cases e:k=x
 ·subst e;rw[zbc];unfold zum;rw[if_pos (qM.2 (by simp))]
 ·rw[qB e];unfold zum
  by_cases h:zdn met k=true
  ·rw[if_pos h,if_pos (qM.2 (by have:=qM.1 h;simp[this]))]
  ·rw[if_neg h,if_neg (λ h2=>by
    have:=qM.1 h2;simp at this;rcases this with h3 | h3
    ·exact h (qM.2 h3)
    ·exact e h3)]
def eC (E:List zhv)(met:List B8):Nat:=(E.filter λ e=>!zdn met e.2).length
theorem zv0 (met:List B8)(x:B8):∀ (l:List zhv),(l.filter λ e=>!zdn (met++[x]) e.2).length<=(l.filter λ e=>!zdn met e.2).length
 | []=>Nat.le_refl _
 | e::r=>by
  have ih:=zv0 met x r;have mono:zdn met e.2=true->zdn (met++[x]) e.2=true:=λ h=>qM.2 (by have:=qM.1 h;simp[this])
  simp only[List.filter_cons]
  cases h2:zdn met e.2 with
  | true=>rw[mono h2];simpa using ih
  | false=>
   cases h3:zdn (met++[x]) e.2 with
   | true=>simp;omega
   | false=>simp;omega
theorem zvz {met:List B8}{x y:B8}(hn:zdn met x=false):∀ (l:List zhv),(y,x)∈l->(l.filter λ e=>!zdn (met++[x]) e.2).length+1<=(l.filter λ e=>!zdn met e.2).length
 | [],h=>by cases h
 | e::r,h=>by
  have mono:zdn met e.2=true->zdn (met++[x]) e.2=true:=λ h=>qM.2 (by have:=qM.1 h;simp[this])
  have h1:zdn (met++[x]) x=true:=qM.2 (by simp);simp only[List.filter_cons];rcases List.mem_cons.1 h with he | hr
  ·have:=zv0 met x r;subst he;simp only[h1,hn,Bool.not_true,Bool.not_false,Bool.false_eq_true,if_false,if_true,List.length_cons];omega
  ·have ih:=zvz hn r hr
   cases h2:zdn met e.2 with
   | true=>rw[mono h2];simpa using ih
   | false=>
    cases h3:zdn (met++[x]) e.2 with
    | true=>simp;omega
    | false=>simp;omega
theorem yat {y:B8}(h:(y,x)∈E)(hn:zdn met x=false):eC E (met++[x])+1<=eC E met:=zvz hn E h
structure rV (E:List zhv)(p q:B8)(st met:List B8)(now:Option B8):Prop where
 onStack:∀ x∈st,x=p\/ze8 E p x
 A9:∀ x∈met,ze8 E p x
 done:∀ y,(y=p\/y∈met)->y∈st\/now=some y\/∀ z∈tgt E y,z≠q/\z∈met
theorem rV.start (E:List zhv)(p q:B8):rV E p q [p] [] none:=
 ⟨λ x hx=>.inl (by simpa using hx),λ x hx=>(by cases hx),λ y hy=>.inl (by rcases hy with rfl | h;simp;cases h)⟩
variable {st:List B8} {q:B8}
theorem rV.pop (h:rV E p q (st++[x]) met none):rV E p q st met (some x)/\(x=p\/ze8 E p x):=by
 refine⟨⟨λ y hy=>h.onStack y (by simp[hy]),h.A9,λ y hy=>?_⟩,h.onStack x (by simp)⟩;rcases h.done y hy with h1 | h1 | h1
 ·simp at h1;rcases h1 with h1 | h1
  ·exact .inl h1
  ·exact .inr (.inl (by rw[h1]))
 ·cases h1
 ·exact .inr (.inr h1)
variable {z:B8}
theorem zoh (h:x=p\/ze8 E p x)(hz:z∈tgt E x):ze8 E p z:=by
 rcases h with rfl | h
 ·exact .one (zpp.1 hz)
 ·exact .next h (zpp.1 hz)
theorem rV.push (h:rV E p q st met (some x))(hx:x=p\/ze8 E p x)(hz:z∈tgt E x):rV E p q (st++[z]) (met++[z]) (some x):=by
 have hr:=zoh hx hz;refine⟨λ y hy=>?_,λ y hy=>?_,λ y hy=>?_⟩
 ·rcases List.mem_append.1 hy with hy | hy
  ·exact h.onStack y hy
  ·simp at hy;subst hy;exact .inr hr
 ·rcases List.mem_append.1 hy with hy | hy
  ·exact h.A9 y hy
  ·simp at hy;subst hy;exact hr
 ·have kX:(y=p\/y∈met)\/y=z:=by
   rcases hy with hy | hy
   ·exact .inl (.inl hy)
   ·rcases List.mem_append.1 hy with hy | hy
    ·exact .inl (.inr hy)
    ·exact .inr (by simpa using hy)
  rcases kX with hy | rfl
  ·rcases h.done y hy with h1 | h1 | h1
   ·exact .inl (by simp[h1])
   ·exact .inr (.inl h1)
   ·exact .inr (.inr λ u hu=>⟨(h1 u hu).1,by simp[(h1 u hu).2]⟩)
  ·exact .inl (by simp)
theorem rV.drop (h:rV E p q st met (some x))(hd:∀ z∈tgt E x,z≠q/\z∈met):rV E p q st met none:=by
 refine⟨h.onStack,h.A9,λ y hy=>?_⟩;rcases h.done y hy with h1 | h1 | h1
 ·exact .inl h1
 ·injection h1 with h1;subst h1;exact .inr (.inr hd)
 ·exact .inr (.inr h1)
theorem rV.ends (h:rV E p q [] met none):zgt E p q=false:=by
 have key:∀ x,ze8 E p x->x≠q/\x∈met:=by
  intro x hx;have step:∀ y,(y=p\/y∈met)->∀ z,(y,z)∈E->z≠q/\z∈met:=λ y hy z hz=>by
   rcases h.done y hy with h1 | h1 | h1
   ·cases h1
   ·cases h1
   ·exact h1 z (zpp.2 hz)
  induction hx with
  | one h1=>exact step p (.inl rfl) _ h1
  | next t h1 ih=>exact step _ (.inr (ih).2) _ h1
 unfold zgt;simp only[decide_eq_false_iff_not];exact λ hr=>(key q hr).1 rfl
theorem z2k (h:x=p\/ze8 E p x)(hq:q∈tgt E x):zgt E p q=true:=by
 unfold zgt;simp only[decide_eq_true_eq];exact zoh h hq
variable {l:List B8} {base:Nat} {w:W8}
theorem ybw {g cap:Nat}(h:w.ownsRow base 9 1 (.slice (some ⟨g,0,none⟩) (l++[x]).length cap) (l++[x]).length (pO (l++[x]))):w.ownsRow base 9 1 (.slice (some ⟨g,0,none⟩) l.length cap) l.length (pO l):=by
 rcases h.2 with⟨hv,_⟩ | ⟨g',dn,cur,hv,hb,bS,hn,hc,hs,ht⟩
 ·cases hv
 ·injection hv with h1 h2 h3
  injection h1 with h1
  injection h1 with h1
  subst h1 h3;refine⟨by simp[pO],.inr ⟨g,cap,cur,rfl,hb,bS,by simp at hn;omega,hc,hs,?_⟩⟩;have h4:=congrArg (List.take l.length) ht;rw[List.take_take] at h4;simp[pO] at h4 ⊢;exact h4
variable {v:Value}
theorem z7u (h:w.ownsRow base 9 1 v (l++[x]).length (pO (l++[x]))):∃ g cap,v=.slice (some ⟨g,0,none⟩) (l++[x]).length cap/\base<=g/\g<w.heap.size/\(l++[x]).length<=cap/\cap<=maxLen/\w.cell? ⟨g,l.length,none⟩=some (.string x):=by
 rcases h.2 with⟨_,h0⟩ | ⟨g,cap,cur,rfl,hb,bS,hn,hc,hs,ht⟩
 ·simp at h0
 ·refine⟨g,cap,rfl,hb,(Array.getElem?_eq_some_iff.1 bS).1,hn,hc,?_⟩;rw[h.cellAt l.length (by simp)];simp[pO]
theorem ybx (h:w.ownsRow base 9 1 v l.length (pO l))(k:Nat)(hk:k<l.length):∃ g cap,v=.slice (some ⟨g,0,none⟩) l.length cap/\base<=g/\g<w.heap.size/\l.length<=cap/\cap<=maxLen/\w.cell? ⟨g,k,none⟩=some (.string l[k]):=by
 rcases h.2 with⟨_,h0⟩ | ⟨g,cap,cur,rfl,hb,bS,hn,hc,hs,ht⟩
 ·omega
 ·refine⟨g,cap,rfl,hb,(Array.getElem?_eq_some_iff.1 bS).1,hn,hc,?_⟩;rw[h.cellAt k (by omega)];simp[pO,hk]
end
section
open Go.RowKit Go.Maps
structure wL (w:W8)(st met:List B8)(v:Value)(wr:W8):Prop where
 row:wr.ownsRow (w.heap.size+1) 9 1 v st.length (pO st)
 map:dE Tryz.prog 9 wr w.heap.size met.length (zum met)
 below:Below w.heap.size w wr
 sz:w.heap.size<wr.heap.size
theorem wL.alloc {w:W8}{st met:List B8}{v:Value}{wr:W8}(h:wL w st met v wr)(o:Obj):wL w st met v (wr.alloc o):=
 have hs:=h.sz
 ⟨h.row.alloc o,h.map.alloc o,h.below.alloc (by omega) _,by simp;omega⟩
variable {x:B8} {wr w1 w:W8} {v:Value} {st met:List B8}
theorem wL.put (h:wL w st met v wr)(hm:dE Tryz.prog 9 w1 w.heap.size (met.length+1) (z0b (zum met) x (.agg #[])))(hg:wr.grownBy w1 (some w.heap.size)):wL w st (met++[x]) v w1:=by
 have hs:=h.sz;have hz:=hg.size;refine⟨zZ h.row (λ g e=>hg.block g ((h.row.lt g e).2) (by have:=(h.row.lt g e).1;simp;omega)),?_,?_,by omega⟩
 ·rw[z7o] at hm;simpa using hm
 ·exact h.below.trans ⟨hg.os,hg.tape,hg.output,hg.size,λ i hi=>hg.block i (by omega) (by simp;omega)⟩
theorem wL.push {v':Value}(h:wL w st met v wr)(ay:w1.ownsRow (w.heap.size+1) 9 1 v' (st.length+1) (pO st++[.string x]))(hg:wr.grownBy w1 v.ownBlock):wL w (st++[x]) met v' w1:=by
 have hs:=h.sz;have hz:=hg.size;have hr:∀ g,v.ownBlock=some g->w.heap.size+1<=g:=λ g e=>(h.row.lt g e).1
 refine⟨by simpa[pO] using ay,h.map.block (hg.block _ hs (λ e=>by have:=hr _ e.symm;omega)),?_,by omega⟩;exact h.below.trans ⟨hg.os,hg.tape,hg.output,hg.size,λ i hi=>hg.block i (by omega) (λ e=>by have:=hr _ e.symm;omega)⟩
theorem z67 (w:W8)(p:B8):wL w [p] [] (.slice (some ⟨w.heap.size+1,0,none⟩) 1 1) ((w.alloc (.map #[] 0)).alloc (.cells #[.string p] 9)):=by
 refine⟨⟨by simp[pO],.inr ⟨w.heap.size+1,1,#[.string p],rfl,Nat.le_refl _,?_,Nat.le_refl _,by unfold maxLen;omega,by simp,by simp[pO]⟩⟩,?_,(B9.alloc L9 _).alloc (by simp) _,by simp;omega⟩
 ·have:=heap_alloc_new (w.alloc (.map #[] 0)) (.cells #[.string p] 9);rw[World.size_alloc] at this;exact this
 ·exact (dE.made Tryz.prog 9 w).alloc _
theorem z43 (w1:W8)(x:B8)(j:Nat)(u:Value)(h:([Value.string x]:V8)[j]?=some u):(w1.alloc (Obj.cells #[.string x] 9)).cell? ((⟨w1.heap.size,0,none⟩:Addr).add j)=some u:=cell_one_new w1 _ _ j u h
theorem yas (E:List zhv):eC E []<=E.length:=List.length_filter_le _ _
theorem zt9 (w:W8)(b n:Nat)(E:List zhv)(V:B8->Option Value)(p q:B8)(h:Lk b n E V w)(hE:E.length<=1000)(jk:∀ e∈E,e.2.size<=800)(ft:p.size<=800):
  Calls Tryz.prog 120 #[.map (some b),.string p,.string q] w λ e w'=>e=.returned (.bool (zgt E p q))/\Below w.heap.size w w':=by
 have nx:=@run_makeMap Tryz.prog;obtain⟨i0,hi,bL,aY,bg⟩:=info_parts zf9;have h0:=z67 w p;have zt:=yas E;have HL:=zC h;have Dv:b<w.heap.size:=h.map.lt;clear h;go_enter Tryz.func120,Tryz.ntmps120;go_wp2_with fail
 go_loopg [8] (E.length+2) (λ gg v wr=>∃ (st met:List B8),st.length+eC E met<=gg/\st.length+eC E met<=E.length+1/\met.length+eC E met<=E.length/\(∀ x∈st,x.size<=800)/\rV E p q st met none/\wL w st met v wr)
 exact⟨[p],[],by simp;omega,by simp;omega,by simpa using zt,by simpa using ft,rV.start E p q,h0⟩
 case round=>
  clear h0 zt;obtain⟨st,met,bS,qu,KZ,AN,lE,hinv⟩:=hrel;rcases List.eq_nil_or_concat st with rfl | ⟨DI,x,rfl⟩
  ·obtain⟨a1,c1,rfl⟩:=zD hinv.row;have HS:=zC lE.ends;have HI:=zC hinv;clear lE hinv;go_wp2_with fail;go_ret;exact⟨by rw[zA HS];rfl,(zA HI).below⟩
  ·rw[List.concat_eq_append] at bS qu AN lE hinv;obtain⟨g,cap,rfl,iF,aZ,bO,bQ,cd⟩:=z7u hinv.row;have Lp:=ybw hinv.row;obtain⟨EB,AF⟩:=lE.pop;have hlen:((DI++[x]).length:Int)=(DI.length:Int)+1:=(by simp);have rW:(DI++[x]).length=DI.length+1:=(by simp);rw[rW] at bS qu bO;have hx8:x.size<=800:=AN x (by simp);have EK:x.size<=maxLen:=(by unfold maxLen;omega);have Lw:∀ y∈DI,y.size<=800:=λ y hy=>AN y (by simp[hy])
   have Dc:=(zA HL).below hinv.below;have hu:=Dc.at_ x;obtain⟨au,cu,Ef⟩:=zD hu;have KT:=Dc.map;have YN:=yU hu;unfold maxLen at bQ YN;have dG:wL w DI met (.slice (some ⟨g,0,none⟩) DI.length cap) wr:=⟨Lp,hinv.map,hinv.below,hinv.sz⟩;have HU:=zC (show w.ownsRow (b+1) 9 1 (.slice au (tgt E x).length cu) (tgt E x).length (pO (tgt E x)) by rw[<-Ef];exact (zA HL).at_ x);clear lE hinv Lp Dc hu AN;rw[rW];go_wp2_with (first | (at_lookup;refine zfw _ rfl _ _ 224 rfl 9 33 Tryz.underlying9 Tryz.underlying224 (Tryz.zeroValue33 _) b n V rfl KT x rfl EK _ Ef ?_));obtain⟨G,hG,Xq,hGE⟩:∃ G,DI.length+eC E met<=G/\G<gk/\G<=E.length:=⟨_,Nat.le_refl _,by omega,by omega⟩;clear bS cd KT iF aZ
   go_loopg [8,35] (tgt E x).length (λ gg2 v i wr=>∃ (j:Nat) (st met:List B8),j<=(tgt E x).length/\gg2=(tgt E x).length-j/\i=.int .i64 j/\st.length+eC E met<=G/\met.length+eC E met<=E.length/\(∀ y∈st,y.size<=800)/\rV E p q st met (some x)/\wL w st met v wr/\∀ z∈(tgt E x).take j,z≠q/\z∈met)
   exact⟨0,DI,met,Nat.zero_le _,rfl,rfl,hG,KZ,Lw,EB,dG,by simp⟩
   case round=>
    clear dG EB Lw KZ hG;obtain⟨j,st,met,hj,xj,rfl,hG,KZ,AN,lE,hinv,dj⟩:=hrel;obtain⟨a1,c1,rfl⟩:=zD hinv.row
    by_cases fp:j<(tgt E x).length
    ·have hu:=zJ (zA HU) hinv.below (λ g e=>((zA HU).lt g e).2);obtain⟨g',dn,oc,CV,XW,vm,zv,gY⟩:=ybx hu j fp;injection oc with h1 h2 h3
     subst h1 h3;have hz:(tgt E x)[j]∈tgt E x:=List.getElem_mem fp;have UQ:=zpp.1 hz;have UM:=jk _ UQ;simp only at UM;have Nx:(tgt E x)[j].size<=maxLen:=(by unfold maxLen;omega);have EE:(tgt E x).take (j+1)=(tgt E x).take j++[(tgt E x)[j]]:=List.take_succ_eq_append_getElem fp;have oy:=zC EE;clear hu EE;generalize IB:(tgt E x)[j]=z at *
     cases hq:z.toList==q.toList with
     | true=>
      have LR:z=q:=xO.1 hq;have HR:=zC (z2k AF (q:=q) (by rw[<-LR];exact hz));have HI:=zC hinv;clear hinv lE dj LR hG;go_wp2_with fail;go_ret;exact⟨by rw[zA HR];rfl,(zA HI).below⟩
     | false=>
      have LR:z≠q:=λ e=>by rw[e] at hq;simp at hq
      have SG:=zC LR;clear LR;have dI:=hinv.map;have Dq:(zum met z).getD (.agg #[])=.agg #[]:=by unfold zum;split <;> rfl
      cases hm:zdn met z with
      | true=>
       have va:(zum met z).isSome=true:=(by unfold zum;rw[if_pos hm];rfl);have HI:=zC (hinv.alloc (.cells #[] 299))
       have HD:=zC (show ∀ y∈(tgt E x).take (j+1),y≠q/\y∈met from λ y hy=>by
        rw[zA oy] at hy;rcases List.mem_append.1 hy with hy | hy
        ·exact dj y hy
        ·simp at hy;subst hy;exact⟨zA SG,qM.1 hm⟩)
       have HS:=zC lE;clear hinv dj lE hm;go_wp2_with (first | (at_lookup;refine qC _ rfl _ _ 298 rfl 9 299 Tryz.underlying9 Tryz.underlying298 (Tryz.zeroValue299 _) w.heap.size met.length (zum met) rfl dI z rfl Nx _ Dq _ va ?_));go_roundg ((tgt E x).length-(j+1));exact⟨j+1,st,met,by omega,rfl,by go_num,hG,KZ,AN,zA HS,zA HI,zA HD⟩;omega
      | false=>
       have va:(zum met z).isSome=false:=(by unfold zum;rw[hm];rfl);have hcp:=yat UQ hm;have Pr:=hinv.alloc (.cells #[] 299);have Er:=Pr.map;have HI:=zC Pr;have HS:=zC (lE.push AF hz);have Ct:=zC dj;have EC:st.length<=1000:=(by omega);clear hinv lE hm Pr dj;go_wp2_with (first | (at_lookup;refine qC _ rfl _ _ 298 rfl 9 299 Tryz.underlying9 Tryz.underlying298 (Tryz.zeroValue299 _) w.heap.size met.length (zum met) rfl dI z rfl Nx _ Dq _ va ?_) | (at_mapUpdate;refine zox _ rfl _ _ _ 298 rfl 9 299 Tryz.underlying9 Tryz.underlying298 w.heap.size met.length (zum met) rfl Er (by unfold maxLen;omega) z (.agg #[]) (by rfl) (by rfl) Nx ?_));intro w3 fq hg3;have gA:=(zA HI).put fq hg3;have A4:=gA.sz;have bH:=gA.row.alloc (.cells #[.string z] 9);have iC:=zC (gA.alloc (.cells #[.string z] 9));clear fq hg3 dI Er HI gA;go_wp2_with (at_builtin;refine wpList_append_own _ rfl _ _ 33 rfl (w.heap.size+1) 9 i0 _ 1 16 Tryz.underlying33 hi bL aY bg rfl (by decide) _ _ _ rfl bH ⟨w3.heap.size,0,none⟩ 1 1 [.string z] rfl rfl (z43 w3 _) (z44 _) (by unfold maxLen;omega) (by omega) (by simp;omega) ?_);intro v5 w5 aq aU hne5;clear hne5;obtain⟨a5,eH,rfl⟩:=zD aq;have J4:=(zA iC).push aq aU;have ym:=zC J4;clear aq aU bH J4 iC;go_wp2_with fail;go_roundg ((tgt E x).length-(j+1))
       case measure=>omega
       case rel=>
        refine⟨j+1,st++[z],met++[z],by omega,rfl,by go_num,by simp;omega,by simp;omega,λ y hy=>?_,zA HS,?_,λ y hy=>?_⟩
        ·rcases List.mem_append.1 hy with hy | hy
         ·exact AN y hy
         ·simp at hy;subst hy;exact UM
        ·have:=zA ym;simpa using this
        ·rw[zA oy] at hy;rcases List.mem_append.1 hy with hy | hy
         ·exact⟨(zA Ct y hy).1,by simp[(zA Ct y hy).2]⟩
         ·simp at hy;subst hy;exact⟨zA SG,by simp⟩
    ·have HS:=zC (lE.drop (λ z hz=>dj z (by rw[List.take_of_length_le (by omega)];exact hz)));have HI:=zC hinv;clear hinv lE dj;go_wp2_with fail;go_roundg G;exact⟨st,met,hG,by omega,KZ,AN,zA HS,zA HI⟩;exact Xq
end
section
open Go.RowKit Go.Maps
def zn3 (rs:List vY)(n:Nat):B8:=match rs[n]? with | some R=>R.pd | none=>{ data:=#[] }
noncomputable def z9m (rs:List vY)(M:xU):Bool:=M.neg&&(M.pd.toList==(zn3 rs M.num).toList||zgt (jA rs) M.pd (zn3 rs M.num))
noncomputable def zae (rs:List vY):List xU->Int
 | []=>-1
 | M::r=>if z9m rs M then (M.start:Int) else zae rs r
variable {rs:List vY}
theorem ztz {ms:List (xU × Value)}{k:Nat}(h:k<ms.length):zae rs ((ms.map (·.1)).drop k)=if z9m rs ms[k].1 then (ms[k].1.start:Int) else zae rs ((ms.map (·.1)).drop (k+1)):=by
 rw[List.drop_eq_getElem_cons (by simpa using h),zae];simp
theorem zx9 (h:∀ R∈rs,∀ l∈R.body,l.pd.size<=800):∀ e∈jA rs,e.2.size<=800:=by
 intro e he;obtain⟨R,hR,he⟩:=List.mem_flatMap.1 he;obtain⟨l,hl,rfl⟩:=List.mem_map.1 he;exact h R hR l hl
theorem z11 (h:∀ R∈rs,R.body.length<=3):(jA rs).length<=3*rs.length:=by
 induction rs with
 | nil=>simp[jA]
 | cons R r ih=>
  have h1:=ih (λ x hx=>h x (List.mem_cons_of_mem _ hx));have h2:=h R List.mem_cons_self;have e:jA (R::r)=zgq R.pd R.body++jA r:=by simp[jA]
  rw[e,List.length_append,List.length_cons];simp only[zgq,List.length_map];omega
structure Few (rs:List PR)(ms:List (xU × Value)):Prop where
 r30:rs.length<=30
 L1:ms.length<=1000
 b3:∀ r∈rs,r.bs.length<=3
 rpd:∀ r∈rs,r.R.pd.size<=800
 UT:∀ R∈rs.map (·.R),∀ l∈R.body,l.pd.size<=800
 Y9:∀ x∈ms,x.1.pd.size<=800
 Zc:∀ x∈ms,x.1.num<rs.length/\x.1.ts.length<=4
theorem zt0 (w:W8)(base:Nat)(ar:O8)(cr:Nat)(rs:List PR)(am:O8)(cm:Nat)(ms:List (xU × Value))(h:iq w base (.slice ar rs.length cr) rs)(h':ey w base (.slice am ms.length cm) ms)(hf:Few rs ms):
  Calls Tryz.prog 77 #[.agg #[.slice ar rs.length cr,.slice am ms.length cm]] w λ e w'=>e=zi4 (zae (rs.map (·.R)) (ms.map (·.1)))/\Below w.heap.size w w':=by
 obtain⟨Dj,KY,cI,QQ,Ql,Qu,Qw⟩:=hf;have J3:=zx9 Ql;have Xp:(jA (rs.map (·.R))).length<=1000:=by
  have:=z11 (rs:=rs.map (·.R)) (λ R hR=>by
   obtain⟨r,hr,rfl⟩:=List.mem_map.1 hR;have h1:=cI r hr;have h2:=(h.each r hr).eq
   rw[<-h2];simpa using h1)
  simp at this;omega
 have h0:=BR.start h h';have QS:=yU h.row;unfold maxLen at QS;have Tx:=h0.rules;obtain⟨x1,mZ⟩:=zB h0.box 1;clear h h';go_enter Tryz.func77,Tryz.ntmps77;go_wp2_with fail;refine (z26 _ base ar cr rs Tx QQ cI Dj).mono ?_;rintro e w1 ⟨rfl,aL,aY,V,aF⟩;have h1:=h0.next aL;obtain⟨y1,Hh⟩:=zB h1.box 1;rw[World.size_alloc] at aF aY ⊢;clear h0 Tx x1 mZ aL;go_wp2_with fail
 go_loopg [15] ms.length (λ gg i wr=>∃ k:Nat,k<=ms.length/\gg=ms.length-k/\i=.int .i64 k/\BR w base (.slice ar rs.length cr) (.slice am ms.length cm) rs ms wr/\Lk (w.heap.size+1) (jA (rs.map (·.R))).length (jA (rs.map (·.R))) V wr/\zae (rs.map (·.R)) (ms.map (·.1))=zae (rs.map (·.R)) ((ms.map (·.1)).drop k))
 exact⟨0,Nat.zero_le _,rfl,rfl,h1,aF,rfl⟩
 case round=>
  clear h1 aF y1 Hh aY;obtain⟨k,hk,eD,rfl,hinv,aF,aE⟩:=hrel;have HF:=zC aE;clear aE
  by_cases hlkk:k<ms.length
  ·have aC:=zC ((zA HF).trans (ztz hlkk));obtain⟨g,cap,hv,iF,aZ,bO,bQ,hc⟩:=vX zul hinv.eK.row k hlkk;injection hv with h1 h2 h3
   subst h1 h3;obtain⟨br,dL,fo⟩:=zD (hinv.eK.each _ (List.getElem_mem hlkk));have q0:=hc 0 (by omega);have q1:=hc 1 (by omega);have q2:=hc 2 (by omega);have q3:=hc 3 (by omega);have q4:=hc 4 (by omega);have q5:=hc 5 (by omega);have q6:=hc 6 (by omega);have q7:=hc 7 (by omega);have q8:=hc 8 (by omega);have q9:=hc 9 (by omega);simp only[xU.cells,fo,Nat.add_zero,List.getElem?_cons_zero,List.getElem?_cons_succ] at q0 q1 q2 q3 q4 q5 q6 q7 q8 q9;obtain⟨lC,pH⟩:=Qw _ (List.getElem_mem hlkk);obtain⟨gr,dz,AS,CX,C6,De,C2,nk⟩:=vX zsm hinv.rules.row ms[k].1.num lC;injection AS with h4 h5 h6
   subst h4 h6;have r0:=nk 0 (by omega);simp only[PR.cells,Nat.add_zero,List.getElem?_cons_zero] at r0;obtain⟨x0,uE⟩:=zB hinv.box 0;have bA:=(Below.refl wr.heap.size wr).alloc L9 (.cells #[.int .i64 ms[k].1.num,.bool ms[k].1.neg,.string ms[k].1.pd,.slice br ms[k].1.ts.length dL,.int .i64 ms[k].1.start,.int .i64 ms[k].1.place,.int .i64 (ms[k].1.pl 0),.int .i64 (ms[k].1.pl 1),.int .i64 (ms[k].1.pl 2),.int .i64 (ms[k].1.pl 3)] 221);have hI:=hinv.next bA;have hL:=aF.below bA;have vd:zn3 (rs.map (·.R)) ms[k].1.num=rs[ms[k].1.num].R.pd:=by
    unfold zn3;rw[List.getElem?_map,List.getElem?_eq_getElem lC];rfl
   have ft:=Qu _ (List.getElem_mem hlkk);have bj:=hinv.sz;have HI:=zC hI;clear hc nk HF hinv aF hI fo bA;have KA:z9m (rs.map (·.R)) ms[k].1=(ms[k].1.neg&&(ms[k].1.pd.toList==rs[ms[k].1.num].R.pd.toList||zgt (jA (rs.map (·.R))) ms[k].1.pd rs[ms[k].1.num].R.pd)):=(by unfold z9m;rw[vd]);rw[KA] at aC;clear vd KA
   cases hneg:ms[k].1.neg with
   | false=>
    rw[hneg] at aC q1 HI;have aO:=zC (show zae (rs.map (·.R)) (ms.map (·.1))=zae (rs.map (·.R)) ((ms.map (·.1)).drop (k+1)) from zA aC);rw[hneg] at hL;have HL:=zC hL;clear aC hneg hL;go_wp2_with fail;go_roundg (ms.length-(k+1));exact⟨k+1,by omega,rfl,by go_num,zA HI,zA HL,zA aO⟩;omega
   | true=>
    rw[hneg] at aC q1 HI hL;have HN:=zC hneg;clear hneg
    cases heq:ms[k].1.pd.toList==rs[ms[k].1.num].R.pd.toList with
    | true=>
     rw[heq] at aC;have aO:=zC (show zae (rs.map (·.R)) (ms.map (·.1))=(ms[k].1.start:Int) from zA aC);clear aC hL;go_wp2_with fail
     go_ret2
     refine⟨?_,(zA HI).below⟩;rw[zA aO];unfold zi4;rw[if_pos (by omega)];simp
    | false=>
     rw[heq] at aC;go_wp2_with fail;refine (zt9 _ (w.heap.size+1) _ (jA (rs.map (·.R))) V ms[k].1.pd rs[ms[k].1.num].R.pd hL Xp J3 ft).mono ?_;rintro e w2 ⟨rfl,aK⟩;have bg:=aK.size;rw[World.size_alloc] at bg;have pD:(wr.alloc (.cells #[.int .i64 ms[k].1.num,.bool true,.string ms[k].1.pd,.slice br ms[k].1.ts.length dL,.int .i64 ms[k].1.start,.int .i64 ms[k].1.place,.int .i64 (ms[k].1.pl 0),.int .i64 (ms[k].1.pl 1),.int .i64 (ms[k].1.pl 2),.int .i64 (ms[k].1.pl 3)] 221)).heap[wr.heap.size]?=_:=heap_alloc_new wr _;have qy:=(aK.block wr.heap.size (by simp)).trans pD;obtain⟨z4,RO⟩:=zB qy 4;have eA:=zC ((zA HI).next aK);have Hs:=zC (hL.below aK);clear q0 q1 q2 q3 q4 q5 q6 q7 q8 q9 r0 x0 uE hL HI pD qy
     cases hh:zgt (jA (rs.map (·.R))) ms[k].1.pd rs[ms[k].1.num].R.pd with
     | true=>
      rw[hh] at aC;have aO:=zC (show zae (rs.map (·.R)) (ms.map (·.1))=(ms[k].1.start:Int) from zA aC);clear aC hh;go_wp2_with fail
      go_ret2
      refine⟨?_,(zA eA).below⟩;rw[zA aO];unfold zi4;rw[if_pos (by omega)];simp
     | false=>
      rw[hh] at aC;have aO:=zC (show zae (rs.map (·.R)) (ms.map (·.1))=zae (rs.map (·.R)) ((ms.map (·.1)).drop (k+1)) from zA aC);clear aC hh z4 RO;go_wp2_with fail;go_roundg (ms.length-(k+1));exact⟨k+1,by omega,rfl,by go_num,zA eA,zA Hs,zA aO⟩;omega
  ·have aC:=zC (show zae (rs.map (·.R)) (ms.map (·.1))=-1 by rw[zA HF,List.drop_of_length_le (by simp;omega)];rfl);have HI:=zC hinv;clear HF hinv aF;go_wp2_with fail
   go_ret2
   exact⟨by rw[zA aC];rfl,(zA HI).below⟩
end
section
theorem zza (s:B8)(f:Nat):∀ {p:Nat} {l:List (Bool × B8)} {pl:Nat->Nat},(yB s f p l pl).2.2.1.length<=l.length+f:=by
 induction f with
 | zero=>intro p l pl;simp[yB]
 | succ f ih=>
  intro p l pl;rw[yB]
  split
  ·split
   ·refine Nat.le_trans ih ?_;first | (simp;done) | (simp;omega)
   ·first | (simp;done) | (simp;omega)
  ·first | (simp;done) | (simp;omega)
theorem zkm {s:B8}{p q:Nat}{pd:B8}{ts:List (Bool × B8)}{pl:Nat->Nat}(h:vD s p=.yes q pd ts pl):pd.size<=s.size/\ts.length<=4:=by
 unfold vD at h
 by_cases c1:(zF s p).1=2
 ·rw[if_pos c1] at h
  by_cases c2:(zF s (zF s p).2.2).1=5
  ·rw[if_pos c2] at h
   by_cases c3:(yB s 4 (zF s (zF s p).2.2).2.2 [] (λ _=>0)).1=true
   ·rw[if_pos c3] at h;injection h with h1 h2 h3 h4
    subst h2 h3;refine⟨RQ s p,?_⟩;have:=zza s 4 (p:=(zF s (zF s p).2.2).2.2) (l:=[]) (pl:=λ _=>0);simpa using this
   ·rw[if_neg c3] at h;cases h
  ·rw[if_neg c2] at h;injection h with h1 h2 h3 h4
   subst h2 h3;exact⟨RQ s p,by simp⟩
 ·rw[if_neg c1] at h;cases h
def OkM (s:B8)(M:xU):Prop:=M.pd.size<=s.size/\M.ts.length<=4
def OkL (s:B8)(L:vK):Prop:=L.pd.size<=s.size
def OkR (s:B8)(R:vY):Prop:=R.pd.size<=s.size/\R.body.length<=3/\∀ l∈R.body,OkL s l
theorem z7z (s:B8)(num f:Nat):∀ {p:Nat} {l:List vK} {ms:List xU},(∀ x∈l,OkL s x)->(∀ M∈ms,OkM s M)->(jG s num f p l ms).2.2.1.length<=l.length+f/\(∀ x∈(jG s num f p l ms).2.2.1,OkL s x)/\(∀ M∈(jG s num f p l ms).2.2.2,OkM s M):=by
 induction f with
 | zero=>intro p l ms hl hm;exact⟨by simp[jG],hl,hm⟩
 | succ f ih=>
  intro p l ms hl hm;rw[jG]
  cases hr:vD s (yM s p 4) with
  | no q=>exact⟨by simp,hl,hm⟩
  | yes q pd ts pl=>
   obtain⟨o1,o2⟩:=zkm hr;have nU:∀ x∈l++[uH s p pd ts],OkL s x:=λ x hx=>by
    rcases List.mem_append.1 hx with hx | hx
    ·exact hl x hx
    ·simp at hx;subst hx;exact o1
   have nw:∀ M∈ms++[BS s num p pd ts pl],OkM s M:=λ x hx=>by
    rcases List.mem_append.1 hx with hx | hx
    ·exact hm x hx
    ·simp at hx;subst hx;exact⟨o1,o2⟩
   simp only
   split
   ·obtain⟨a,b,c⟩:=ih (p:=(zF s q).2.2) nU nw;refine⟨Nat.le_trans a ?_,b,c⟩
    first | (simp;done) | (simp;omega)
   ·exact⟨by first | (simp;done) | (simp;omega),nU,nw⟩
variable {ms:List xU}
theorem z8a (s:B8)(num p:Nat)(hm:∀ M∈ms,OkM s M):OkR s (vG s num p ms).2.2.1/\∀ M∈(vG s num p ms).2.2.2,OkM s M:=by
 unfold vG
 cases hr:vD s p with
 | no q=>exact⟨⟨Nat.zero_le _,by simp,by simp⟩,hm⟩
 | yes q pd ts pl=>
  obtain⟨o1,o2⟩:=zkm hr;have nw:∀ M∈ms++[su s num p pd ts pl],OkM s M:=λ x hx=>by
   rcases List.mem_append.1 hx with hx | hx
   ·exact hm x hx
   ·simp at hx;subst hx;exact⟨o1,o2⟩
  simp only
  split
  ·exact⟨⟨o1,by simp,by simp⟩,nw⟩
  ·split
   ·obtain⟨a,b,c⟩:=z7z s num 3 (p:=(zF s q).2.2) (l:=[]) (by simp) nw;exact⟨⟨o1,by simpa using a,b⟩,c⟩
   ·exact⟨⟨o1,by simp,by simp⟩,nw⟩
theorem z4l (s:B8)(f:Nat):∀ {p:Nat} {rs:List vY} {ms:List xU},(∀ R∈rs,OkR s R)->(∀ M∈ms,OkM s M)->(∀ R∈(jW s f p rs ms).2.2.1,OkR s R)/\(∀ M∈(jW s f p rs ms).2.2.2,OkM s M):=by
 induction f with
 | zero=>intro p rs ms hr hm;exact⟨hr,hm⟩
 | succ f ih=>
  intro p rs ms hr hm;obtain⟨o1,o2⟩:=z8a s rs.length p hm;rw[jW]
  split
  ·exact⟨hr,hm⟩
  ·split
   ·exact⟨hr,hm⟩
   ·split
    ·refine ih (λ R hR=>?_) o2;rcases List.mem_append.1 hR with hR | hR
     ·exact hr R hR
     ·simp at hR;subst hR;exact o1
    ·exact⟨hr,o2⟩
theorem z8y {n:Nat}{rs:List zS}(h:qD n rs ms):∀ M∈ms,n<=M.num/\M.num<n+rs.length:=by
 induction h with
 | nil n=>simp
 | cons h t ih=>
  intro M hM;rcases List.mem_append.1 hM with hM | hM
  ·obtain⟨q,_,q2,q3⟩:=h;rw[<-q2] at hM;obtain⟨x,hx,rfl⟩:=List.mem_map.1 hM;have:=(q3 x hx).num;simp;omega
  ·have:=ih M hM;simp;omega
theorem zog (s:B8)(hs:s.size<=800)(h:(yL s).1=true):(∀ R∈(yL s).2.2.1,R.pd.size<=800/\R.body.length<=3/\∀ l∈R.body,l.pd.size<=800)/\(∀ M∈(yL s).2.2.2,M.pd.size<=800/\M.ts.length<=4/\M.num<(yL s).2.2.1.length):=by
 obtain⟨o1,o2⟩:=z4l s 31 (p:=0) (rs:=[]) (ms:=[]) (by simp) (by simp);obtain⟨_,e2,e3⟩:=(zig s).1 h;refine⟨λ R hR=>?_,λ M hM=>?_⟩
 ·obtain⟨a,b,c⟩:=o1 R hR;exact⟨Nat.le_trans a hs,b,λ l hl=>Nat.le_trans (c l hl) hs⟩
 ·obtain⟨a,b⟩:=o2 M hM;have:=(z8y e3 M hM).2;rw[e2];exact⟨Nat.le_trans a hs,b,by simpa using this⟩
end
section
open Go.RowKit Go.Maps
noncomputable def zfd (rs:List vY)(ms:List xU):Int × Int:=
 if 0<=zcw ms [] then (3,zcw ms []) else if 0<=jR rs ms then (4,jR rs ms) else if 0<=zae rs ms then (5,zae rs ms) else (0,0)
theorem z19 (w:W8)(base:Nat)(ar:O8)(cr:Nat)(rs:List PR)(am:O8)(cm:Nat)(ms:List (xU × Value))(h:iq w base (.slice ar rs.length cr) rs)(h':ey w base (.slice am ms.length cm) ms)(hf:Few rs ms):
  Calls Tryz.prog 46 #[.agg #[.slice ar rs.length cr,.slice am ms.length cm]] w λ e w'=>e=.returned (.tuple #[.int .i64 (zfd (rs.map (·.R)) (ms.map (·.1))).1,.int .i64 (zfd (rs.map (·.R)) (ms.map (·.1))).2])/\Below w.heap.size w w':=by
 have h0:=BR.start h h';have hF:zfd (rs.map (·.R)) (ms.map (·.1))=_:=zfd.eq_1 (rs.map (·.R)) (ms.map (·.1));have HF:=zC hF;clear h h' hF;go_enter Tryz.func46,Tryz.ntmps46;go_wp2_with fail;refine (zy1 _ base ar rs.length cr am cm ms h0.eK hf.L1 hf.Y9).mono ?_;rintro e w1 ⟨he,aL⟩;have h1:=h0.next aL;obtain⟨x0,uE⟩:=zB h1.box 0;obtain⟨x1,mZ⟩:=zB h1.box 1;have Dl:=h1.sz;clear h0 aL
 by_cases c1:0<=zcw (ms.map (·.1)) []
 ·have fw:=zC ((zA HF).trans (if_pos c1));have ma:e=.returned (.tuple #[.int .i64 (zcw (ms.map (·.1)) []),.bool true]):=by rw[he];unfold zi4;rw[if_pos c1];simp[c1]
  subst ma;have HB:=zC h1.below;clear HF he c1 h1;go_wp2_with fail
  go_ret2
  exact⟨by rw[zA fw];rfl,zA HB⟩
 ·have fw:=zC ((zA HF).trans (if_neg c1));have ma:e=.returned (.tuple #[.int .i64 0,.bool false]):=by rw[he];unfold zi4;rw[if_neg c1];simp[c1]
  subst ma;clear HF he c1;go_wp2_with fail;refine (zve _ base ar cr rs am cm ms h1.rules h1.eK hf.L1 hf.Zc (λ r hr=>by have:=hf.b3 r hr;omega)).mono ?_;rintro e w2 ⟨he,aK⟩;have h2:=h1.next aK;clear h1 aK x0 x1 uE mZ;obtain⟨x0,uE⟩:=zB h2.box 0;obtain⟨x1,mZ⟩:=zB h2.box 1;have te:=h2.sz
  by_cases c2:0<=jR (rs.map (·.R)) (ms.map (·.1))
  ·have aC:=zC ((zA fw).trans (if_pos c2));have ma:e=.returned (.tuple #[.int .i64 (jR (rs.map (·.R)) (ms.map (·.1))),.bool true]):=(by rw[he];unfold zi4;rw[if_pos c2];simp[c2]);subst ma;have HB:=zC h2.below;clear fw he c2 h2;go_wp2_with fail
   go_ret2
   exact⟨by rw[zA aC];rfl,zA HB⟩
  ·have aC:=zC ((zA fw).trans (if_neg c2));have ma:e=.returned (.tuple #[.int .i64 0,.bool false]):=(by rw[he];unfold zi4;rw[if_neg c2];simp[c2]);subst ma;clear fw he c2;go_wp2_with fail;refine (zt0 _ base ar cr rs am cm ms h2.rules h2.eK hf).mono ?_;rintro e w3 ⟨he,cI⟩;have h3:=h2.next cI;have HB:=zC h3.below;clear h2 cI x0 x1 uE mZ h3
   by_cases c3:0<=zae (rs.map (·.R)) (ms.map (·.1))
   ·have aO:=zC ((zA aC).trans (if_pos c3));have ma:e=.returned (.tuple #[.int .i64 (zae (rs.map (·.R)) (ms.map (·.1))),.bool true]):=(by rw[he];unfold zi4;rw[if_pos c3];simp[c3]);subst ma;clear aC he c3;go_wp2_with fail
    go_ret2
    exact⟨by rw[zA aO];rfl,zA HB⟩
   ·have aO:=zC ((zA aC).trans (if_neg c3));have ma:e=.returned (.tuple #[.int .i64 0,.bool false]):=(by rw[he];unfold zi4;rw[if_neg c3];simp[c3]);subst ma;clear aC he c3;go_wp2_with fail
    go_ret2
    exact⟨by rw[zA aO];rfl,zA HB⟩
noncomputable def z4e (s:B8):Bool × Int × Int:=
 if 800<s.size then (false,1,0)
 else if (yL s).1=false then (false,2,(zF s (yL s).2.1).2.1)
 else if (zfd (yL s).2.2.1 (yL s).2.2.2).1≠0 then (false,(zfd (yL s).2.2.1 (yL s).2.2.2).1,(zfd (yL s).2.2.1 (yL s).2.2.2).2)
 else (true,0,0)
def wK (w:W8)(base b:Nat)(rs:List PR):Prop:=∃ (a:O8) (c:Nat),w.heap[b]?=some (.cells #[.slice a rs.length c] 106 (0,0))/\base<=b/\iq w base (.slice a rs.length c) rs
def z6b (w:W8)(P:Bool × Int × Int)(rules:List vY)(e:Ending)(w':W8):Prop:=
 Below w.heap.size w w'/\(P.1=false->e=.returned (.tuple #[.pointer none,.int .i64 P.2.1,.int .i64 P.2.2])) /\
 (P.1=true->∃ (b:Nat) (rs:List PR),e=.returned (.tuple #[.pointer (some ⟨b,0,none⟩),.int .i64 P.2.1,.int .i64 P.2.2])/\wK w' w.heap.size b rs/\rs.map (·.R)=rules)
theorem z4f (w:W8)(s:B8)(hs:s.size<=maxLen):
  Calls Tryz.prog 30 #[.string s] w (z6b w (z4e s) (yL s).2.2.1):=by
 have hP:z4e s=_:=z4e.eq_1 s;have HP:=zC hP;clear hP;unfold maxLen at hs
 by_cases c0:800<s.size
 ·have W7:800<(s.size:Int):=by omega
  have sC:=zC ((zA HP).trans (if_pos c0));clear HP c0;go_enter Tryz.func30,Tryz.ntmps30;go_wp2_with fail
  go_ret3
  rw[zA sC];exact⟨Below.refl _ _,λ _=>rfl,λ e=>by cases e⟩
 ·have W7:¬ 800<(s.size:Int):=by omega
  have sC:=zC ((zA HP).trans (if_neg c0));have AN:s.size<=800:=by omega
  clear HP c0;go_enter Tryz.func30,Tryz.ntmps30;go_wp2_with fail;refine (zy8 _ s (by omega)).mono ?_;rintro e w1 ⟨aL,aX,kY⟩
  cases c1:(yL s).1 with
  | false=>
   have mE:=zC ((zA sC).trans (if_pos c1));have he:=aX c1;subst he;clear aX kY sC c1;go_wp2_with fail
   go_ret3
   rw[zA mE];exact⟨aL.alloc aL.size _,λ _=>rfl,λ e=>by cases e⟩
  | true=>
   have mE:=zC ((zA sC).trans (if_neg (by rw[c1];decide)));obtain⟨a,n,c,a',n',c',rs,ms,rfl,hR,AL,hM,gU,Dj,KY⟩:=kY c1;obtain⟨ar,cr,im⟩:=zD hR.row;obtain⟨am,cm,Dr⟩:=zD hM.row;injection im with h1 h2 h3
   injection Dr with h4 h5 h6
   subst h1 h2 h3 h4 h5 h6;obtain⟨o1,o2⟩:=zog s AN c1;rw[<-AL] at o1 o2;rw[<-gU] at o2;rw[<-AL,<-gU] at mE;have DX:=zC AL;have hf:Few rs ms:=by
    refine⟨Dj,by omega,λ r hr=>?_,λ r hr=>(o1 _ (List.mem_map_of_mem hr)).1,λ R hR l hl=>(o1 R hR).2.2 l hl,λ x hx=>(o2 _ (List.mem_map_of_mem hx)).1,λ x hx=>?_⟩
    ·have h1:=(o1 _ (List.mem_map_of_mem hr)).2.1;have h2:=(hR.each r hr).eq;rw[<-h2] at h1;simpa using h1
    ·obtain⟨_,h2,h3⟩:=o2 _ (List.mem_map_of_mem hx);exact⟨by simpa using h3,h2⟩
   have kA:=(Below.refl w1.heap.size w1).alloc L9 (.cells #[.slice a rs.length c,.slice a' ms.length c'] 100);have uY:=hR.below kA;have MY:=hM.below kA;have dq:(w1.alloc (.cells #[.slice a rs.length c,.slice a' ms.length c'] 100)).heap[w1.heap.size]?=_:=heap_alloc_new w1 _;have dY:=aL.size;have ql:=aL.trans (kA.mono dY);clear aX kY sC c1 hR hM AL gU o1 o2 kA;go_wp2_with fail;refine (z19 _ w.heap.size a c rs a' c' ms uY MY hf).mono ?_;rintro e w2 ⟨rfl,aK⟩;have bg:=aK.size;rw[World.size_alloc] at bg;have SS:=uY.below aK;have mM:=(aK.block w1.heap.size (by simp)).trans dq;have lu:=ql.trans (aK.mono (by simp;omega));obtain⟨x0,uE⟩:=zB mM 0;clear uY MY dq mM aK ql
   by_cases c2:(zfd (rs.map (·.R)) (ms.map (·.1))).1≠0
   ·have W9:((zfd (rs.map (·.R)) (ms.map (·.1))).1 != 0)=true:=(by simpa using c2);have sD:=zC ((zA mE).trans (if_pos c2));clear mE c2;go_wp2_with fail
    go_ret3
    rw[zA sD];exact⟨lu,λ _=>rfl,λ e=>by cases e⟩
   ·have W9:((zfd (rs.map (·.R)) (ms.map (·.1))).1 != 0)=false:=(by simpa using c2);have sD:=zC ((zA mE).trans (if_neg c2));clear mE c2;go_wp2_with fail
    go_ret3
    rw[zA sD];have kB:=(Below.refl w2.heap.size w2).alloc L9 (.cells #[.slice a rs.length c] 106);exact⟨lu.trans (kB.mono (by omega)),λ e=>(by cases e),λ _=>⟨w2.heap.size,rs,rfl,⟨a,c,heap_alloc_new w2 _,by omega,SS.below kB⟩,zA DX⟩⟩
end
end Go.Proofs.YtldkpahaocjdpaaGreat
