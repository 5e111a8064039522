/-
  Plain: what hangs on what, by the links; a search's stack and what it has met.
-/
import Derived.Test.YtldkpahaocjdpaaGreatE17
set_option maxHeartbeats 16000000
set_option maxRecDepth 1000000
namespace Go.Proofs.YtldkpahaocjdpaaGreat
section
open Go.RowKit Go.Maps
inductive zfn (E:List zh6):B8->B8->Prop where
 | one {a b:B8} (h:(a,b)∈E):zfn E a b
 | next {a b c:B8} (t:zfn E a b) (h:(b,c)∈E):zfn E a c
open Classical in
noncomputable def zgn (E:List zh6)(p q:B8):Bool:=decide (zfn E p q)
variable {p x:B8} {E:List zh6}
theorem zqe:x∈tgt E p↔(p,x)∈E:=by
 unfold tgt
 constructor
 ·intro h;obtain⟨e,he,rfl⟩:=List.mem_map.1 h;obtain⟨h1,h2⟩:=List.mem_filter.1 he;have:e.1=p:=xO.1 h2;rw[<-this];exact h1
 ·intro h;exact List.mem_map.2 ⟨(p,x),List.mem_filter.2 ⟨h,by simp⟩,rfl⟩
def zdr (met:List B8)(x:B8):Bool:=met.any λ m=>m.toList==x.toList
variable {met:List B8}
theorem qP:zdr met x=true↔x∈met:=by
 unfold zdr;rw[List.any_eq_true]
 constructor
 ·rintro⟨m,hm,h⟩;rw[<-xO.1 h];exact hm
 ·intro h;exact⟨x,h,by simp⟩
def zuj (met:List B8):B8->Option Value:=λ k=>if zdr met k then some (.agg #[]) else none
theorem z7q (met:List B8)(x:B8):z0b (zuj met) x (.agg #[])=zuj (met++[x]):=by
 funext k
 by_cases e:k=x
 ·subst e;rw[za4];unfold zuj;rw[if_pos (qP.2 (by simp))]
 ·rw[qC e];unfold zuj
  by_cases h:zdr met k=true
  ·rw[if_pos h,if_pos (qP.2 (by have:=qP.1 h;simp[this]))]
  ·rw[if_neg h,if_neg (λ h2=>by
    have:=qP.1 h2;simp at this;rcases this with h3 | h3
    ·exact h (qP.2 h3)
    ·exact e h3)]
def eD (E:List zh6)(met:List B8):Nat:=(E.filter λ e=>!zdr met e.2).length
theorem zxp (met:List B8)(x:B8):∀ (l:List zh6),(l.filter λ e=>!zdr (met++[x]) e.2).length<=(l.filter λ e=>!zdr met e.2).length
 | []=>Nat.le_refl _
 | e::r=>by
  have ih:=zxp met x r;have mono:zdr met e.2=true->zdr (met++[x]) e.2=true:=λ h=>qP.2 (by have:=qP.1 h;simp[this])
  simp only[List.filter_cons]
  cases h2:zdr met e.2 with
  | true=>rw[mono h2];simpa using ih
  | false=>
   cases h3:zdr (met++[x]) e.2 with
   | true=>simp;omega
   | false=>simp;omega
theorem zxf {met:List B8}{x y:B8}(hn:zdr met x=false):∀ (l:List zh6),(y,x)∈l->(l.filter λ e=>!zdr (met++[x]) e.2).length+1<=(l.filter λ e=>!zdr met e.2).length
 | [],h=>by cases h
 | e::r,h=>by
  have mono:zdr met e.2=true->zdr (met++[x]) e.2=true:=λ h=>qP.2 (by have:=qP.1 h;simp[this])
  have h1:zdr (met++[x]) x=true:=qP.2 (by simp);simp only[List.filter_cons];rcases List.mem_cons.1 h with he | hr
  ·have:=zxp met x r;subst he;simp only[h1,hn,Bool.not_true,Bool.not_false,Bool.false_eq_true,if_false,if_true,List.length_cons];omega
  ·have ih:=zxf hn r hr
   cases h2:zdr met e.2 with
   | true=>rw[mono h2];simpa using ih
   | false=>
    cases h3:zdr (met++[x]) e.2 with
    | true=>simp;omega
    | false=>simp;omega
theorem yae {y:B8}(h:(y,x)∈E)(hn:zdr met x=false):eD E (met++[x])+1<=eD E met:=zxf hn E h
structure rU (E:List zh6)(p q:B8)(st met:List B8)(now:Option B8):Prop where
 onStack:∀ x∈st,x=p\/zfn E p x
 Bq:∀ x∈met,zfn E p x
 done:∀ y,(y=p\/y∈met)->y∈st\/now=some y\/∀ z∈tgt E y,z≠q/\z∈met
theorem rU.start (E:List zh6)(p q:B8):rU E p q [p] [] none:=
 ⟨λ x hx=>.inl (by simpa using hx),λ x hx=>(by cases hx),λ y hy=>.inl (by rcases hy with rfl | h;simp;cases h)⟩
variable {st:List B8} {q:B8}
theorem rU.pop (h:rU E p q (st++[x]) met none):rU E p q st met (some x)/\(x=p\/zfn E p x):=by
 refine⟨⟨λ y hy=>h.onStack y (by simp[hy]),h.Bq,λ y hy=>?_⟩,h.onStack x (by simp)⟩;rcases h.done y hy with h1 | h1 | h1
 ·simp at h1;rcases h1 with h1 | h1
  ·exact .inl h1
  ·exact .inr (.inl (by rw[h1]))
 ·cases h1
 ·exact .inr (.inr h1)
variable {z:B8}
theorem znx (h:x=p\/zfn E p x)(hz:z∈tgt E x):zfn E p z:=by
 rcases h with rfl | h
 ·exact .one (zqe.1 hz)
 ·exact .next h (zqe.1 hz)
theorem rU.push (h:rU E p q st met (some x))(hx:x=p\/zfn E p x)(hz:z∈tgt E x):rU E p q (st++[z]) (met++[z]) (some x):=by
 have hr:=znx hx hz;refine⟨λ y hy=>?_,λ y hy=>?_,λ y hy=>?_⟩
 ·rcases List.mem_append.1 hy with hy | hy
  ·exact h.onStack y hy
  ·simp at hy;subst hy;exact .inr hr
 ·rcases List.mem_append.1 hy with hy | hy
  ·exact h.Bq y hy
  ·simp at hy;subst hy;exact hr
 ·have kE:(y=p\/y∈met)\/y=z:=by
   rcases hy with hy | hy
   ·exact .inl (.inl hy)
   ·rcases List.mem_append.1 hy with hy | hy
    ·exact .inl (.inr hy)
    ·exact .inr (by simpa using hy)
  rcases kE with hy | rfl
  ·rcases h.done y hy with h1 | h1 | h1
   ·exact .inl (by simp[h1])
   ·exact .inr (.inl h1)
   ·exact .inr (.inr λ u hu=>⟨(h1 u hu).1,by simp[(h1 u hu).2]⟩)
  ·exact .inl (by simp)
theorem rU.drop (h:rU E p q st met (some x))(hd:∀ z∈tgt E x,z≠q/\z∈met):rU E p q st met none:=by
 refine⟨h.onStack,h.Bq,λ y hy=>?_⟩;rcases h.done y hy with h1 | h1 | h1
 ·exact .inl h1
 ·injection h1 with h1;subst h1;exact .inr (.inr hd)
 ·exact .inr (.inr h1)
theorem rU.ends (h:rU E p q [] met none):zgn E p q=false:=by
 have key:∀ x,zfn E p x->x≠q/\x∈met:=by
  intro x hx;have step:∀ y,(y=p\/y∈met)->∀ z,(y,z)∈E->z≠q/\z∈met:=λ y hy z hz=>by
   rcases h.done y hy with h1 | h1 | h1
   ·cases h1
   ·cases h1
   ·exact h1 z (zqe.2 hz)
  induction hx with
  | one h1=>exact step p (.inl rfl) _ h1
  | next t h1 ih=>exact step _ (.inr (ih).2) _ h1
 unfold zgn;simp only[decide_eq_false_iff_not];exact λ hr=>(key q hr).1 rfl
theorem z2j (h:x=p\/zfn E p x)(hq:q∈tgt E x):zgn E p q=true:=by
 unfold zgn;simp only[decide_eq_true_eq];exact znx h hq
variable {l:List B8} {base:Nat} {w:W8}
theorem ya9 {g cap:Nat}(h:w.ownsRow base 9 1 (.slice (some ⟨g,0,none⟩) (l++[x]).length cap) (l++[x]).length (py (l++[x]))):w.ownsRow base 9 1 (.slice (some ⟨g,0,none⟩) l.length cap) l.length (py l):=by
 rcases h.2 with⟨hv,_⟩ | ⟨g',dp,cur,hv,hb,bS,hn,hc,hs,ht⟩
 ·cases hv
 ·injection hv with h1 h2 h3
  injection h1 with h1
  injection h1 with h1
  subst h1 h3;refine⟨by simp[py],.inr ⟨g,cap,cur,rfl,hb,bS,by simp at hn;omega,hc,hs,?_⟩⟩;have h4:=congrArg (List.take l.length) ht;rw[List.take_take] at h4;simp[py] at h4 ⊢;exact h4
variable {v:Value}
theorem z6z (h:w.ownsRow base 9 1 v (l++[x]).length (py (l++[x]))):∃ g cap,v=.slice (some ⟨g,0,none⟩) (l++[x]).length cap/\base<=g/\g<w.heap.size/\(l++[x]).length<=cap/\cap<=maxLen/\w.cell? ⟨g,l.length,none⟩=some (.string x):=by
 rcases h.2 with⟨_,h0⟩ | ⟨g,cap,cur,rfl,hb,bS,hn,hc,hs,ht⟩
 ·simp at h0
 ·refine⟨g,cap,rfl,hb,(Array.getElem?_eq_some_iff.1 bS).1,hn,hc,?_⟩;rw[h.cellAt l.length (by simp)];simp[py]
theorem yba (h:w.ownsRow base 9 1 v l.length (py l))(k:Nat)(hk:k<l.length):∃ g cap,v=.slice (some ⟨g,0,none⟩) l.length cap/\base<=g/\g<w.heap.size/\l.length<=cap/\cap<=maxLen/\w.cell? ⟨g,k,none⟩=some (.string l[k]):=by
 rcases h.2 with⟨_,h0⟩ | ⟨g,cap,cur,rfl,hb,bS,hn,hc,hs,ht⟩
 ·omega
 ·refine⟨g,cap,rfl,hb,(Array.getElem?_eq_some_iff.1 bS).1,hn,hc,?_⟩;rw[h.cellAt k (by omega)];simp[py,hk]
end
section
open Go.RowKit Go.Maps
structure wJ (w:W8)(st met:List B8)(v:Value)(wr:W8):Prop where
 row:wr.ownsRow (w.heap.size+1) 9 1 v st.length (py st)
 map:dE Tryz.prog 9 wr w.heap.size met.length (zuj met)
 below:Below w.heap.size w wr
 sz:w.heap.size<wr.heap.size
theorem wJ.alloc {w:W8}{st met:List B8}{v:Value}{wr:W8}(h:wJ w st met v wr)(o:Obj):wJ w st met v (wr.alloc o):=
 have hs:=h.sz
 ⟨h.row.alloc o,h.map.alloc o,h.below.alloc (by omega) _,by simp;omega⟩
variable {x:B8} {wr w1 w:W8} {v:Value} {st met:List B8}
theorem wJ.put (h:wJ w st met v wr)(hm:dE Tryz.prog 9 w1 w.heap.size (met.length+1) (z0b (zuj met) x (.agg #[])))(hg:wr.grownBy w1 (some w.heap.size)):wJ w st (met++[x]) v w1:=by
 have hs:=h.sz;have hz:=hg.size;refine⟨zZ h.row (λ g e=>hg.block g ((h.row.lt g e).2) (by have:=(h.row.lt g e).1;simp;omega)),?_,?_,by omega⟩
 ·rw[z7q] at hm;simpa using hm
 ·exact h.below.trans ⟨hg.os,hg.tape,hg.output,hg.size,λ i hi=>hg.block i (by omega) (by simp;omega)⟩
theorem wJ.push {v':Value}(h:wJ w st met v wr)(ay:w1.ownsRow (w.heap.size+1) 9 1 v' (st.length+1) (py st++[.string x]))(hg:wr.grownBy w1 v.ownBlock):wJ w (st++[x]) met v' w1:=by
 have hs:=h.sz;have hz:=hg.size;have hr:∀ g,v.ownBlock=some g->w.heap.size+1<=g:=λ g e=>(h.row.lt g e).1
 refine⟨by simpa[py] using ay,h.map.block (hg.block _ hs (λ e=>by have:=hr _ e.symm;omega)),?_,by omega⟩;exact h.below.trans ⟨hg.os,hg.tape,hg.output,hg.size,λ i hi=>hg.block i (by omega) (λ e=>by have:=hr _ e.symm;omega)⟩
theorem z88 (w:W8)(p:B8):wJ w [p] [] (.slice (some ⟨w.heap.size+1,0,none⟩) 1 1) ((w.alloc (.map #[] 0)).alloc (.cells #[.string p] 9)):=by
 refine⟨⟨by simp[py],.inr ⟨w.heap.size+1,1,#[.string p],rfl,Nat.le_refl _,?_,Nat.le_refl _,by unfold maxLen;omega,by simp,by simp[py]⟩⟩,?_,(B9.alloc L9 _).alloc (by simp) _,by simp;omega⟩
 ·have:=heap_alloc_new (w.alloc (.map #[] 0)) (.cells #[.string p] 9);rw[World.size_alloc] at this;exact this
 ·exact (dE.made Tryz.prog 9 w).alloc _
theorem z4e (w1:W8)(x:B8)(j:Nat)(u:Value)(h:([Value.string x]:V8)[j]?=some u):(w1.alloc (Obj.cells #[.string x] 9)).cell? ((⟨w1.heap.size,0,none⟩:Addr).add j)=some u:=cell_one_new w1 _ _ j u h
theorem yco (E:List zh6):eD E []<=E.length:=List.length_filter_le _ _
theorem ztt (w:W8)(b n:Nat)(E:List zh6)(V:B8->Option Value)(p q:B8)(h:Lk b n E V w)(hE:E.length<=1000)(iU:∀ e∈E,e.2.size<=800)(fl:p.size<=800):
  Calls Tryz.prog 120 #[.map (some b),.string p,.string q] w λ e w'=>e=.returned (.bool (zgn E p q))/\Below w.heap.size w w':=by
 have np:=@run_makeMap Tryz.prog;obtain⟨i0,hi,bL,aY,bf⟩:=info_parts zf5;have h0:=z88 w p;have Bm:=yco E;have HL:=zC h;have CG:b<w.heap.size:=h.map.lt;clear h;go_enter Tryz.func120,Tryz.ntmps120;go_wp2_with fail
 go_loopg [8] (E.length+2) (λ gg v wr=>∃ (st met:List B8),st.length+eD E met<=gg/\st.length+eD E met<=E.length+1/\met.length+eD E met<=E.length/\(∀ x∈st,x.size<=800)/\rU E p q st met none/\wJ w st met v wr)
 exact⟨[p],[],by simp;omega,by simp;omega,by simpa using Bm,by simpa using fl,rU.start E p q,h0⟩
 case round=>
  clear h0 Bm;obtain⟨st,met,bS,qq,Lh,zx,lC,hinv⟩:=hrel;rcases List.eq_nil_or_concat st with rfl | ⟨Dg,x,rfl⟩
  ·obtain⟨a1,c1,rfl⟩:=zD hinv.row;have HS:=zC lC.ends;have HI:=zC hinv;clear lC hinv;go_wp2_with fail;go_ret;exact⟨by rw[zA HS];rfl,(zA HI).below⟩
  ·rw[List.concat_eq_append] at bS qq zx lC hinv;obtain⟨g,cap,rfl,iG,aZ,bO,bP,cd⟩:=z6z hinv.row;have JN:=ya9 hinv.row;obtain⟨E5,AQ⟩:=lC.pop;have hlen:((Dg++[x]).length:Int)=(Dg.length:Int)+1:=(by simp);have sg:(Dg++[x]).length=Dg.length+1:=(by simp);rw[sg] at bS qq bO;have hx8:x.size<=800:=zx x (by simp);have EC:x.size<=maxLen:=(by unfold maxLen;omega);have J2:∀ y∈Dg,y.size<=800:=λ y hy=>zx y (by simp[hy])
   have DH:=(zA HL).below hinv.below;have hu:=DH.at_ x;obtain⟨au,cu,Eh⟩:=zD hu;have JK:=DH.map;have V1:=yU hu;unfold maxLen at bP V1;have dI:wJ w Dg met (.slice (some ⟨g,0,none⟩) Dg.length cap) wr:=⟨JN,hinv.map,hinv.below,hinv.sz⟩;have HU:=zC (show w.ownsRow (b+1) 9 1 (.slice au (tgt E x).length cu) (tgt E x).length (py (tgt E x)) by rw[<-Eh];exact (zA HL).at_ x);clear lC hinv JN DH hu zx;rw[sg];go_wp2_with (first | (at_lookup;refine zfk _ rfl _ _ 224 rfl 9 33 Tryz.underlying9 Tryz.underlying224 (Tryz.zeroValue33 _) b n V rfl JK x rfl EC _ Eh ?_));obtain⟨G,hG,Yq,hGE⟩:∃ G,Dg.length+eD E met<=G/\G<gk/\G<=E.length:=⟨_,Nat.le_refl _,by omega,by omega⟩;clear bS cd JK iG aZ
   go_loopg [8,35] (tgt E x).length (λ gg2 v i wr=>∃ (j:Nat) (st met:List B8),j<=(tgt E x).length/\gg2=(tgt E x).length-j/\i=.int .i64 j/\st.length+eD E met<=G/\met.length+eD E met<=E.length/\(∀ y∈st,y.size<=800)/\rU E p q st met (some x)/\wJ w st met v wr/\∀ z∈(tgt E x).take j,z≠q/\z∈met)
   exact⟨0,Dg,met,Nat.zero_le _,rfl,rfl,hG,Lh,J2,E5,dI,by simp⟩
   case round=>
    clear dI E5 J2 Lh hG;obtain⟨j,st,met,hj,xu,rfl,hG,Lh,zx,lC,hinv,dj⟩:=hrel;obtain⟨a1,c1,rfl⟩:=zD hinv.row
    by_cases fu:j<(tgt E x).length
    ·have hu:=zJ (zA HU) hinv.below (λ g e=>((zA HU).lt g e).2);obtain⟨g',dp,oo,CQ,XL,wu,AX,gX⟩:=yba hu j fu;injection oo with h1 h2 h3
     subst h1 h3;have hz:(tgt E x)[j]∈tgt E x:=List.getElem_mem fu;have Uv:=zqe.1 hz;have Tu:=iU _ Uv;simp only at Tu;have Nl:(tgt E x)[j].size<=maxLen:=(by unfold maxLen;omega);have EG:(tgt E x).take (j+1)=(tgt E x).take j++[(tgt E x)[j]]:=List.take_succ_eq_append_getElem fu;have oV:=zC EG;clear hu EG;generalize IN:(tgt E x)[j]=z at *
     cases hq:z.toList==q.toList with
     | true=>
      have L4:z=q:=xO.1 hq;have HR:=zC (z2j AQ (q:=q) (by rw[<-L4];exact hz));have HI:=zC hinv;clear hinv lC dj L4 hG;go_wp2_with fail;go_ret;exact⟨by rw[zA HR];rfl,(zA HI).below⟩
     | false=>
      have L4:z≠q:=λ e=>by rw[e] at hq;simp at hq
      have SO:=zC L4;clear L4;have dH:=hinv.map;have Ds:(zuj met z).getD (.agg #[])=.agg #[]:=by unfold zuj;split <;> rfl
      cases hm:zdr met z with
      | true=>
       have vs:(zuj met z).isSome=true:=(by unfold zuj;rw[if_pos hm];rfl);have HI:=zC (hinv.alloc (.cells #[] 299))
       have HD:=zC (show ∀ y∈(tgt E x).take (j+1),y≠q/\y∈met from λ y hy=>by
        rw[zA oV] at hy;rcases List.mem_append.1 hy with hy | hy
        ·exact dj y hy
        ·simp at hy;subst hy;exact⟨zA SO,qP.1 hm⟩)
       have HS:=zC lC;clear hinv dj lC hm;go_wp2_with (first | (at_lookup;refine qB _ rfl _ _ 298 rfl 9 299 Tryz.underlying9 Tryz.underlying298 (Tryz.zeroValue299 _) w.heap.size met.length (zuj met) rfl dH z rfl Nl _ Ds _ vs ?_));go_roundg ((tgt E x).length-(j+1));exact⟨j+1,st,met,by omega,rfl,by go_num,hG,Lh,zx,zA HS,zA HI,zA HD⟩;omega
      | false=>
       have vs:(zuj met z).isSome=false:=(by unfold zuj;rw[hm];rfl);have hcp:=yae Uv hm;have RF:=hinv.alloc (.cells #[] 299);have DR:=RF.map;have HI:=zC RF;have HS:=zC (lC.push AQ hz);have De:=zC dj;have DT:st.length<=1000:=(by omega);clear hinv lC hm RF dj;go_wp2_with (first | (at_lookup;refine qB _ rfl _ _ 298 rfl 9 299 Tryz.underlying9 Tryz.underlying298 (Tryz.zeroValue299 _) w.heap.size met.length (zuj met) rfl dH z rfl Nl _ Ds _ vs ?_) | (at_mapUpdate;refine znz _ rfl _ _ _ 298 rfl 9 299 Tryz.underlying9 Tryz.underlying298 w.heap.size met.length (zuj met) rfl DR (by unfold maxLen;omega) z (.agg #[]) (by rfl) (by rfl) Nl ?_));intro w3 fm hg3;have gz:=(zA HI).put fm hg3;have ze:=gz.sz;have bH:=gz.row.alloc (.cells #[.string z] 9);have iH:=zC (gz.alloc (.cells #[.string z] 9));clear fm hg3 dH DR HI gz;go_wp2_with (at_builtin;refine wpList_append_own _ rfl _ _ 33 rfl (w.heap.size+1) 9 i0 _ 1 16 Tryz.underlying33 hi bL aY bf rfl (by decide) _ _ _ rfl bH ⟨w3.heap.size,0,none⟩ 1 1 [.string z] rfl rfl (z4e w3 _) (z2e _) (by unfold maxLen;omega) (by omega) (by simp;omega) ?_);intro v5 w5 aq aU hne5;clear hne5;obtain⟨a5,eI,rfl⟩:=zD aq;have Lw:=(zA iH).push aq aU;have yu:=zC Lw;clear aq aU bH Lw iH;go_wp2_with fail;go_roundg ((tgt E x).length-(j+1))
       case measure=>omega
       case rel=>
        refine⟨j+1,st++[z],met++[z],by omega,rfl,by go_num,by simp;omega,by simp;omega,λ y hy=>?_,zA HS,?_,λ y hy=>?_⟩
        ·rcases List.mem_append.1 hy with hy | hy
         ·exact zx y hy
         ·simp at hy;subst hy;exact Tu
        ·have:=zA yu;simpa using this
        ·rw[zA oV] at hy;rcases List.mem_append.1 hy with hy | hy
         ·exact⟨(zA De y hy).1,by simp[(zA De y hy).2]⟩
         ·simp at hy;subst hy;exact⟨zA SO,by simp⟩
    ·have HS:=zC (lC.drop (λ z hz=>dj z (by rw[List.take_of_length_le (by omega)];exact hz)));have HI:=zC hinv;clear hinv lC dj;go_wp2_with fail;go_roundg G;exact⟨st,met,hG,by omega,Lh,zx,zA HS,zA HI⟩;exact Yq
end
section
open Go.RowKit Go.Maps
def zoi (rs:List vY)(n:Nat):B8:=match rs[n]? with | some R=>R.pd | none=>{ data:=#[] }
noncomputable def z92 (rs:List vY)(M:xU):Bool:=M.neg&&(M.pd.toList==(zoi rs M.num).toList||zgn (jA rs) M.pd (zoi rs M.num))
noncomputable def zah (rs:List vY):List xU->Int
 | []=>-1
 | M::r=>if z92 rs M then (M.start:Int) else zah rs r
variable {rs:List vY}
theorem zt1 {ms:List (xU × Value)}{k:Nat}(h:k<ms.length):zah rs ((ms.map (·.1)).drop k)=if z92 rs ms[k].1 then (ms[k].1.start:Int) else zah rs ((ms.map (·.1)).drop (k+1)):=by
 rw[List.drop_eq_getElem_cons (by simpa using h),zah];simp
theorem zyk (h:∀ R∈rs,∀ l∈R.body,l.pd.size<=800):∀ e∈jA rs,e.2.size<=800:=by
 intro e he;obtain⟨R,hR,he⟩:=List.mem_flatMap.1 he;obtain⟨l,hl,rfl⟩:=List.mem_map.1 he;exact h R hR l hl
theorem z2g (h:∀ R∈rs,R.body.length<=3):(jA rs).length<=3*rs.length:=by
 induction rs with
 | nil=>simp[jA]
 | cons R r ih=>
  have h1:=ih (λ x hx=>h x (List.mem_cons_of_mem _ hx));have h2:=h R List.mem_cons_self;have e:jA (R::r)=zgs R.pd R.body++jA r:=by simp[jA]
  rw[e,List.length_append,List.length_cons];simp only[zgs,List.length_map];omega
structure Few (rs:List PR)(ms:List (xU × Value)):Prop where
 r30:rs.length<=30
 Ky:ms.length<=1000
 b3:∀ r∈rs,r.bs.length<=3
 rpd:∀ r∈rs,r.R.pd.size<=800
 R3:∀ R∈rs.map (·.R),∀ l∈R.body,l.pd.size<=800
 VD:∀ x∈ms,x.1.pd.size<=800
 XQ:∀ x∈ms,x.1.num<rs.length/\x.1.ts.length<=4
theorem zuh (w:W8)(base:Nat)(ar:O8)(cr:Nat)(rs:List PR)(am:O8)(cm:Nat)(ms:List (xU × Value))(h:ig w base (.slice ar rs.length cr) rs)(h':ew w base (.slice am ms.length cm) ms)(hf:Few rs ms):
  Calls Tryz.prog 77 #[.agg #[.slice ar rs.length cr,.slice am ms.length cm]] w λ e w'=>e=zix (zah (rs.map (·.R)) (ms.map (·.1)))/\Below w.heap.size w w':=by
 obtain⟨DD,Mo,cI,QI,OF,Qz,OO⟩:=hf;have Jy:=zyk OF;have Xi:(jA (rs.map (·.R))).length<=1000:=by
  have:=z2g (rs:=rs.map (·.R)) (λ R hR=>by
   obtain⟨r,hr,rfl⟩:=List.mem_map.1 hR;have h1:=cI r hr;have h2:=(h.each r hr).eq
   rw[<-h2];simpa using h1)
  simp at this;omega
 have h0:=zv.start h h';have OR:=yU h.row;unfold maxLen at OR;have Uo:=h0.rules;obtain⟨x1,mL⟩:=zB h0.box 1;clear h h';go_enter Tryz.func77,Tryz.ntmps77;go_wp2_with fail;refine (z2v _ base ar cr rs Uo QI cI DD).mono ?_;rintro e w1 ⟨rfl,aL,aY,V,aF⟩;have h1:=h0.next aL;obtain⟨y1,Fq⟩:=zB h1.box 1;rw[World.size_alloc] at aF aY ⊢;clear h0 Uo x1 mL aL;go_wp2_with fail
 go_loopg [15] ms.length (λ gg i wr=>∃ k:Nat,k<=ms.length/\gg=ms.length-k/\i=.int .i64 k/\zv w base (.slice ar rs.length cr) (.slice am ms.length cm) rs ms wr/\Lk (w.heap.size+1) (jA (rs.map (·.R))).length (jA (rs.map (·.R))) V wr/\zah (rs.map (·.R)) (ms.map (·.1))=zah (rs.map (·.R)) ((ms.map (·.1)).drop k))
 exact⟨0,Nat.zero_le _,rfl,rfl,h1,aF,rfl⟩
 case round=>
  clear h1 aF y1 Fq aY;obtain⟨k,hk,eA,rfl,hinv,aF,aE⟩:=hrel;have HF:=zC aE;clear aE
  by_cases hlkk:k<ms.length
  ·have aC:=zC ((zA HF).trans (zt1 hlkk));obtain⟨g,cap,hv,iG,aZ,bO,bP,hc⟩:=vU zu4 hinv.eK.row k hlkk;injection hv with h1 h2 h3
   subst h1 h3;obtain⟨br,dL,fp⟩:=zD (hinv.eK.each _ (List.getElem_mem hlkk));have q0:=hc 0 (by omega);have q1:=hc 1 (by omega);have q2:=hc 2 (by omega);have q3:=hc 3 (by omega);have q4:=hc 4 (by omega);have q5:=hc 5 (by omega);have q6:=hc 6 (by omega);have q7:=hc 7 (by omega);have q8:=hc 8 (by omega);have q9:=hc 9 (by omega);simp only[xU.cells,fp,Nat.add_zero,List.getElem?_cons_zero,List.getElem?_cons_succ] at q0 q1 q2 q3 q4 q5 q6 q7 q8 q9;obtain⟨ly,pG⟩:=OO _ (List.getElem_mem hlkk);obtain⟨gr,dA,BO,CW,Cu,Dz,Cr,nk⟩:=vU zq3 hinv.rules.row ms[k].1.num ly;injection BO with h4 h5 h6
   subst h4 h6;have r0:=nk 0 (by omega);simp only[PR.cells,Nat.add_zero,List.getElem?_cons_zero] at r0;obtain⟨x0,uu⟩:=zB hinv.box 0;have bA:=(Below.refl wr.heap.size wr).alloc L9 (.cells #[.int .i64 ms[k].1.num,.bool ms[k].1.neg,.string ms[k].1.pd,.slice br ms[k].1.ts.length dL,.int .i64 ms[k].1.start,.int .i64 ms[k].1.place,.int .i64 (ms[k].1.pl 0),.int .i64 (ms[k].1.pl 1),.int .i64 (ms[k].1.pl 2),.int .i64 (ms[k].1.pl 3)] 221);have hI:=hinv.next bA;have hL:=aF.below bA;have uW:zoi (rs.map (·.R)) ms[k].1.num=rs[ms[k].1.num].R.pd:=by
    unfold zoi;rw[List.getElem?_map,List.getElem?_eq_getElem ly];rfl
   have fl:=Qz _ (List.getElem_mem hlkk);have bj:=hinv.sz;have HI:=zC hI;clear hc nk HF hinv aF hI fp bA;have KL:z92 (rs.map (·.R)) ms[k].1=(ms[k].1.neg&&(ms[k].1.pd.toList==rs[ms[k].1.num].R.pd.toList||zgn (jA (rs.map (·.R))) ms[k].1.pd rs[ms[k].1.num].R.pd)):=(by unfold z92;rw[uW]);rw[KL] at aC;clear uW KL
   cases hneg:ms[k].1.neg with
   | false=>
    rw[hneg] at aC q1 HI;have aP:=zC (show zah (rs.map (·.R)) (ms.map (·.1))=zah (rs.map (·.R)) ((ms.map (·.1)).drop (k+1)) from zA aC);rw[hneg] at hL;have HL:=zC hL;clear aC hneg hL;go_wp2_with fail;go_roundg (ms.length-(k+1));exact⟨k+1,by omega,rfl,by go_num,zA HI,zA HL,zA aP⟩;omega
   | true=>
    rw[hneg] at aC q1 HI hL;have HN:=zC hneg;clear hneg
    cases heq:ms[k].1.pd.toList==rs[ms[k].1.num].R.pd.toList with
    | true=>
     rw[heq] at aC;have aP:=zC (show zah (rs.map (·.R)) (ms.map (·.1))=(ms[k].1.start:Int) from zA aC);clear aC hL;go_wp2_with fail
     go_ret2
     refine⟨?_,(zA HI).below⟩;rw[zA aP];unfold zix;rw[if_pos (by omega)];simp
    | false=>
     rw[heq] at aC;go_wp2_with fail;refine (ztt _ (w.heap.size+1) _ (jA (rs.map (·.R))) V ms[k].1.pd rs[ms[k].1.num].R.pd hL Xi Jy fl).mono ?_;rintro e w2 ⟨rfl,aK⟩;have bf:=aK.size;rw[World.size_alloc] at bf;have pK:(wr.alloc (.cells #[.int .i64 ms[k].1.num,.bool true,.string ms[k].1.pd,.slice br ms[k].1.ts.length dL,.int .i64 ms[k].1.start,.int .i64 ms[k].1.place,.int .i64 (ms[k].1.pl 0),.int .i64 (ms[k].1.pl 1),.int .i64 (ms[k].1.pl 2),.int .i64 (ms[k].1.pl 3)] 221)).heap[wr.heap.size]?=_:=heap_alloc_new wr _;have re:=(aK.block wr.heap.size (by simp)).trans pK;obtain⟨z4,Ph⟩:=zB re 4;have eC:=zC ((zA HI).next aK);have IC:=zC (hL.below aK);clear q0 q1 q2 q3 q4 q5 q6 q7 q8 q9 r0 x0 uu hL HI pK re
     cases hh:zgn (jA (rs.map (·.R))) ms[k].1.pd rs[ms[k].1.num].R.pd with
     | true=>
      rw[hh] at aC;have aP:=zC (show zah (rs.map (·.R)) (ms.map (·.1))=(ms[k].1.start:Int) from zA aC);clear aC hh;go_wp2_with fail
      go_ret2
      refine⟨?_,(zA eC).below⟩;rw[zA aP];unfold zix;rw[if_pos (by omega)];simp
     | false=>
      rw[hh] at aC;have aP:=zC (show zah (rs.map (·.R)) (ms.map (·.1))=zah (rs.map (·.R)) ((ms.map (·.1)).drop (k+1)) from zA aC);clear aC hh z4 Ph;go_wp2_with fail;go_roundg (ms.length-(k+1));exact⟨k+1,by omega,rfl,by go_num,zA eC,zA IC,zA aP⟩;omega
  ·have aC:=zC (show zah (rs.map (·.R)) (ms.map (·.1))=-1 by rw[zA HF,List.drop_of_length_le (by simp;omega)];rfl);have HI:=zC hinv;clear HF hinv aF;go_wp2_with fail
   go_ret2
   exact⟨by rw[zA aC];rfl,(zA HI).below⟩
end
section
theorem zzd (s:B8)(f:Nat):∀ {p:Nat} {l:List (Bool × B8)} {pl:Nat->Nat},(yB s f p l pl).2.2.1.length<=l.length+f:=by
 induction f with
 | zero=>intro p l pl;simp[yB]
 | succ f ih=>
  intro p l pl;rw[yB]
  split
  ·split
   ·refine Nat.le_trans ih ?_;first | (simp;done) | (simp;omega)
   ·first | (simp;done) | (simp;omega)
  ·first | (simp;done) | (simp;omega)
theorem zka {s:B8}{p q:Nat}{pd:B8}{ts:List (Bool × B8)}{pl:Nat->Nat}(h:vD s p=.yes q pd ts pl):pd.size<=s.size/\ts.length<=4:=by
 unfold vD at h
 by_cases c1:(zF s p).1=2
 ·rw[if_pos c1] at h
  by_cases c2:(zF s (zF s p).2.2).1=5
  ·rw[if_pos c2] at h
   by_cases c3:(yB s 4 (zF s (zF s p).2.2).2.2 [] (λ _=>0)).1=true
   ·rw[if_pos c3] at h;injection h with h1 h2 h3 h4
    subst h2 h3;refine⟨Rl s p,?_⟩;have:=zzd s 4 (p:=(zF s (zF s p).2.2).2.2) (l:=[]) (pl:=λ _=>0);simpa using this
   ·rw[if_neg c3] at h;cases h
  ·rw[if_neg c2] at h;injection h with h1 h2 h3 h4
   subst h2 h3;exact⟨Rl s p,by simp⟩
 ·rw[if_neg c1] at h;cases h
def OkM (s:B8)(M:xU):Prop:=M.pd.size<=s.size/\M.ts.length<=4
def OkL (s:B8)(L:vK):Prop:=L.pd.size<=s.size
def OkR (s:B8)(R:vY):Prop:=R.pd.size<=s.size/\R.body.length<=3/\∀ l∈R.body,OkL s l
theorem z6l (s:B8)(num f:Nat):∀ {p:Nat} {l:List vK} {ms:List xU},(∀ x∈l,OkL s x)->(∀ M∈ms,OkM s M)->(jI s num f p l ms).2.2.1.length<=l.length+f/\(∀ x∈(jI s num f p l ms).2.2.1,OkL s x)/\(∀ M∈(jI s num f p l ms).2.2.2,OkM s M):=by
 induction f with
 | zero=>intro p l ms hl hm;exact⟨by simp[jI],hl,hm⟩
 | succ f ih=>
  intro p l ms hl hm;rw[jI]
  cases hr:vD s (yK s p 4) with
  | no q=>exact⟨by simp,hl,hm⟩
  | yes q pd ts pl=>
   obtain⟨o1,o2⟩:=zka hr;have nV:∀ x∈l++[uH s p pd ts],OkL s x:=λ x hx=>by
    rcases List.mem_append.1 hx with hx | hx
    ·exact hl x hx
    ·simp at hx;subst hx;exact o1
   have nu:∀ M∈ms++[yg s num p pd ts pl],OkM s M:=λ x hx=>by
    rcases List.mem_append.1 hx with hx | hx
    ·exact hm x hx
    ·simp at hx;subst hx;exact⟨o1,o2⟩
   simp only
   split
   ·obtain⟨a,b,c⟩:=ih (p:=(zF s q).2.2) nV nu;refine⟨Nat.le_trans a ?_,b,c⟩
    first | (simp;done) | (simp;omega)
   ·exact⟨by first | (simp;done) | (simp;omega),nV,nu⟩
variable {ms:List xU}
theorem z7o (s:B8)(num p:Nat)(hm:∀ M∈ms,OkM s M):OkR s (vF s num p ms).2.2.1/\∀ M∈(vF s num p ms).2.2.2,OkM s M:=by
 unfold vF
 cases hr:vD s p with
 | no q=>exact⟨⟨Nat.zero_le _,by simp,by simp⟩,hm⟩
 | yes q pd ts pl=>
  obtain⟨o1,o2⟩:=zka hr;have nu:∀ M∈ms++[rR s num p pd ts pl],OkM s M:=λ x hx=>by
   rcases List.mem_append.1 hx with hx | hx
   ·exact hm x hx
   ·simp at hx;subst hx;exact⟨o1,o2⟩
  simp only
  split
  ·exact⟨⟨o1,by simp,by simp⟩,nu⟩
  ·split
   ·obtain⟨a,b,c⟩:=z6l s num 3 (p:=(zF s q).2.2) (l:=[]) (by simp) nu;exact⟨⟨o1,by simpa using a,b⟩,c⟩
   ·exact⟨⟨o1,by simp,by simp⟩,nu⟩
theorem z0r (s:B8)(f:Nat):∀ {p:Nat} {rs:List vY} {ms:List xU},(∀ R∈rs,OkR s R)->(∀ M∈ms,OkM s M)->(∀ R∈(jS s f p rs ms).2.2.1,OkR s R)/\(∀ M∈(jS s f p rs ms).2.2.2,OkM s M):=by
 induction f with
 | zero=>intro p rs ms hr hm;exact⟨hr,hm⟩
 | succ f ih=>
  intro p rs ms hr hm;obtain⟨o1,o2⟩:=z7o s rs.length p hm;rw[jS]
  split
  ·exact⟨hr,hm⟩
  ·split
   ·exact⟨hr,hm⟩
   ·split
    ·refine ih (λ R hR=>?_) o2;rcases List.mem_append.1 hR with hR | hR
     ·exact hr R hR
     ·simp at hR;subst hR;exact o1
    ·exact⟨hr,o2⟩
theorem z7x {n:Nat}{rs:List zS}(h:qE n rs ms):∀ M∈ms,n<=M.num/\M.num<n+rs.length:=by
 induction h with
 | nil n=>simp
 | cons h t ih=>
  intro M hM;rcases List.mem_append.1 hM with hM | hM
  ·obtain⟨q,_,q2,q3⟩:=h;rw[<-q2] at hM;obtain⟨x,hx,rfl⟩:=List.mem_map.1 hM;have:=(q3 x hx).num;simp;omega
  ·have:=ih M hM;simp;omega
theorem znt (s:B8)(hs:s.size<=800)(h:(yM s).1=true):(∀ R∈(yM s).2.2.1,R.pd.size<=800/\R.body.length<=3/\∀ l∈R.body,l.pd.size<=800)/\(∀ M∈(yM s).2.2.2,M.pd.size<=800/\M.ts.length<=4/\M.num<(yM s).2.2.1.length):=by
 obtain⟨o1,o2⟩:=z0r s 31 (p:=0) (rs:=[]) (ms:=[]) (by simp) (by simp);obtain⟨_,e2,e3⟩:=(zik s).1 h;refine⟨λ R hR=>?_,λ M hM=>?_⟩
 ·obtain⟨a,b,c⟩:=o1 R hR;exact⟨Nat.le_trans a hs,b,λ l hl=>Nat.le_trans (c l hl) hs⟩
 ·obtain⟨a,b⟩:=o2 M hM;have:=(z7x e3 M hM).2;rw[e2];exact⟨Nat.le_trans a hs,b,by simpa using this⟩
end
end Go.Proofs.YtldkpahaocjdpaaGreat
