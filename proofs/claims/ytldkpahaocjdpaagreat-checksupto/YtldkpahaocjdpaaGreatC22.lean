/-
  Plain: what hangs on what, by the links; a search's stack and what it has met.
-/
import Derived.Test.YtldkpahaocjdpaaGreatC21
set_option maxHeartbeats 16000000
set_option maxRecDepth 1000000
namespace Go.Proofs.YtldkpahaocjdpaaGreat
section
open Go.RowKit Go.Maps
inductive zd4 (E:List zgp):B8->B8->Prop where
 | one {a b:B8} (h:(a,b)∈E):zd4 E a b
 | next {a b c:B8} (t:zd4 E a b) (h:(b,c)∈E):zd4 E a c
open Classical in
noncomputable def zfh (E:List zgp)(p q:B8):Bool:=decide (zd4 E p q)
variable {p x:B8} {E:List zgp}
theorem zno:x∈tgt E p↔(p,x)∈E:=by
 unfold tgt
 constructor
 ·intro h;obtain⟨e,he,rfl⟩:=List.mem_map.1 h;obtain⟨h1,h2⟩:=List.mem_filter.1 he;have:e.1=p:=vO.1 h2;rw[<-this];exact h1
 ·intro h;exact List.mem_map.2 ⟨(p,x),List.mem_filter.2 ⟨h,by simp⟩,rfl⟩
def zcz (met:List B8)(x:B8):Bool:=met.any λ m=>m.toList==x.toList
variable {met:List B8}
theorem qC:zcz met x=true↔x∈met:=by
 unfold zcz;rw[List.any_eq_true]
 constructor
 ·rintro⟨m,hm,h⟩;rw[<-vO.1 h];exact hm
 ·intro h;exact⟨x,h,by simp⟩
def zr3 (met:List B8):B8->Option Value:=λ k=>if zcz met k then some (.agg #[]) else none
theorem z36 (met:List B8)(x:B8):zxk (zr3 met) x (.agg #[])=zr3 (met++[x]):=by
 funext k
 by_cases e:k=x
 ·subst e;rw[zav];unfold zr3;rw[if_pos (qC.2 (by simp))]
 ·rw[jW e];unfold zr3
  by_cases h:zcz met k=true
  ·rw[if_pos h,if_pos (qC.2 (by have:=qC.1 h;simp[this]))]
  ·rw[if_neg h,if_neg (λ h2=>by
    have:=qC.1 h2;simp at this;rcases this with h3 | h3
    ·exact h (qC.2 h3)
    ·exact e h3)]
def kC (E:List zgp)(met:List B8):Nat:=(E.filter λ e=>!zcz met e.2).length
theorem ztf (met:List B8)(x:B8):∀ (l:List zgp),(l.filter λ e=>!zcz (met++[x]) e.2).length<=(l.filter λ e=>!zcz met e.2).length
 | []=>Nat.le_refl _
 | e::r=>by
  have ih:=ztf met x r;have mono:zcz met e.2=true->zcz (met++[x]) e.2=true:=λ h=>qC.2 (by have:=qC.1 h;simp[this])
  simp only[List.filter_cons]
  cases h2:zcz met e.2 with
  | true=>rw[mono h2];simpa using ih
  | false=>
   cases h3:zcz (met++[x]) e.2 with
   | true=>simp;omega
   | false=>simp;omega
theorem zte {met:List B8}{x y:B8}(hn:zcz met x=false):∀ (l:List zgp),(y,x)∈l->(l.filter λ e=>!zcz (met++[x]) e.2).length+1<=(l.filter λ e=>!zcz met e.2).length
 | [],h=>by cases h
 | e::r,h=>by
  have mono:zcz met e.2=true->zcz (met++[x]) e.2=true:=λ h=>qC.2 (by have:=qC.1 h;simp[this])
  have h1:zcz (met++[x]) x=true:=qC.2 (by simp);simp only[List.filter_cons];rcases List.mem_cons.1 h with he | hr
  ·have:=ztf met x r;subst he;simp only[h1,hn,Bool.not_true,Bool.not_false,Bool.false_eq_true,if_false,if_true,List.length_cons];omega
  ·have ih:=zte hn r hr
   cases h2:zcz met e.2 with
   | true=>rw[mono h2];simpa using ih
   | false=>
    cases h3:zcz (met++[x]) e.2 with
    | true=>simp;omega
    | false=>simp;omega
theorem z62 {y:B8}(h:(y,x)∈E)(hn:zcz met x=false):kC E (met++[x])+1<=kC E met:=zte hn E h
structure uw (E:List zgp)(p q:B8)(st met:List B8)(now:Option B8):Prop where
 onStack:∀ x∈st,x=p\/zd4 E p x
 Ct:∀ x∈met,zd4 E p x
 done:∀ y,(y=p\/y∈met)->y∈st\/now=some y\/∀ z∈tgt E y,z≠q/\z∈met
theorem uw.start (E:List zgp)(p q:B8):uw E p q [p] [] none:=
 ⟨λ x hx=>.inl (by simpa using hx),λ x hx=>(by cases hx),λ y hy=>.inl (by rcases hy with rfl | h;simp;cases h)⟩
variable {st:List B8} {q:B8}
theorem uw.pop (h:uw E p q (st++[x]) met none):uw E p q st met (some x)/\(x=p\/zd4 E p x):=by
 refine⟨⟨λ y hy=>h.onStack y (by simp[hy]),h.Ct,λ y hy=>?_⟩,h.onStack x (by simp)⟩;rcases h.done y hy with h1 | h1 | h1
 ·simp at h1;rcases h1 with h1 | h1
  ·exact .inl h1
  ·exact .inr (.inl (by rw[h1]))
 ·cases h1
 ·exact .inr (.inr h1)
variable {z:B8}
theorem zlz (h:x=p\/zd4 E p x)(hz:z∈tgt E x):zd4 E p z:=by
 rcases h with rfl | h
 ·exact .one (zno.1 hz)
 ·exact .next h (zno.1 hz)
theorem uw.push (h:uw E p q st met (some x))(hx:x=p\/zd4 E p x)(hz:z∈tgt E x):uw E p q (st++[z]) (met++[z]) (some x):=by
 have hr:=zlz hx hz;refine⟨λ y hy=>?_,λ y hy=>?_,λ y hy=>?_⟩
 ·rcases List.mem_append.1 hy with hy | hy
  ·exact h.onStack y hy
  ·simp at hy;subst hy;exact .inr hr
 ·rcases List.mem_append.1 hy with hy | hy
  ·exact h.Ct y hy
  ·simp at hy;subst hy;exact hr
 ·have oR:(y=p\/y∈met)\/y=z:=by
   rcases hy with hy | hy
   ·exact .inl (.inl hy)
   ·rcases List.mem_append.1 hy with hy | hy
    ·exact .inl (.inr hy)
    ·exact .inr (by simpa using hy)
  rcases oR with hy | rfl
  ·rcases h.done y hy with h1 | h1 | h1
   ·exact .inl (by simp[h1])
   ·exact .inr (.inl h1)
   ·exact .inr (.inr λ u hu=>⟨(h1 u hu).1,by simp[(h1 u hu).2]⟩)
  ·exact .inl (by simp)
theorem uw.drop (h:uw E p q st met (some x))(hd:∀ z∈tgt E x,z≠q/\z∈met):uw E p q st met none:=by
 refine⟨h.onStack,h.Ct,λ y hy=>?_⟩;rcases h.done y hy with h1 | h1 | h1
 ·exact .inl h1
 ·injection h1 with h1;subst h1;exact .inr (.inr hd)
 ·exact .inr (.inr h1)
theorem uw.ends (h:uw E p q [] met none):zfh E p q=false:=by
 have key:∀ x,zd4 E p x->x≠q/\x∈met:=by
  intro x hx;have step:∀ y,(y=p\/y∈met)->∀ z,(y,z)∈E->z≠q/\z∈met:=λ y hy z hz=>by
   rcases h.done y hy with h1 | h1 | h1
   ·cases h1
   ·cases h1
   ·exact h1 z (zno.2 hz)
  induction hx with
  | one h1=>exact step p (.inl rfl) _ h1
  | next t h1 ih=>exact step _ (.inr (ih).2) _ h1
 unfold zfh;simp only[decide_eq_false_iff_not];exact λ hr=>(key q hr).1 rfl
theorem zza (h:x=p\/zd4 E p x)(hq:q∈tgt E x):zfh E p q=true:=by
 unfold zfh;simp only[decide_eq_true_eq];exact zlz h hq
variable {l:List B8} {base:Nat} {w:W8}
theorem z7z {g cap:Nat}(h:w.ownsRow base 9 1 (.slice (some ⟨g,0,none⟩) (l++[x]).length cap) (l++[x]).length (tk (l++[x]))):w.ownsRow base 9 1 (.slice (some ⟨g,0,none⟩) l.length cap) l.length (tk l):=by
 rcases h.2 with⟨hv,_⟩ | ⟨g',kD,cur,hv,hb,dI,hn,hc,hs,ht⟩
 ·cases hv
 ·injection hv with h1 h2 h3
  injection h1 with h1
  injection h1 with h1
  subst h1 h3;refine⟨by simp[tk],.inr ⟨g,cap,cur,rfl,hb,dI,by simp at hn;omega,hc,hs,?_⟩⟩;have h4:=congrArg (List.take l.length) ht;rw[List.take_take] at h4;simp[tk] at h4 ⊢;exact h4
variable {v:Value}
theorem z4f (h:w.ownsRow base 9 1 v (l++[x]).length (tk (l++[x]))):∃ g cap,v=.slice (some ⟨g,0,none⟩) (l++[x]).length cap/\base<=g/\g<w.heap.size/\(l++[x]).length<=cap/\cap<=maxLen/\w.cell? ⟨g,l.length,none⟩=some (.string x):=by
 rcases h.2 with⟨_,h0⟩ | ⟨g,cap,cur,rfl,hb,dI,hn,hc,hs,ht⟩
 ·simp at h0
 ·refine⟨g,cap,rfl,hb,(Array.getElem?_eq_some_iff.1 dI).1,hn,hc,?_⟩;rw[h.cellAt l.length (by simp)];simp[tk]
theorem z70 (h:w.ownsRow base 9 1 v l.length (tk l))(k:Nat)(hk:k<l.length):∃ g cap,v=.slice (some ⟨g,0,none⟩) l.length cap/\base<=g/\g<w.heap.size/\l.length<=cap/\cap<=maxLen/\w.cell? ⟨g,k,none⟩=some (.string l[k]):=by
 rcases h.2 with⟨_,h0⟩ | ⟨g,cap,cur,rfl,hb,dI,hn,hc,hs,ht⟩
 ·omega
 ·refine⟨g,cap,rfl,hb,(Array.getElem?_eq_some_iff.1 dI).1,hn,hc,?_⟩;rw[h.cellAt k (by omega)];simp[tk,hk]
end
section
open Go.RowKit Go.Maps
structure Ao (w:W8)(st met:List B8)(v:Value)(wr:W8):Prop where
 row:wr.ownsRow (w.heap.size+1) 9 1 v st.length (tk st)
 map:fD Tryz.prog 9 wr w.heap.size met.length (zr3 met)
 below:Below w.heap.size w wr
 sz:w.heap.size<wr.heap.size
theorem Ao.alloc {w:W8}{st met:List B8}{v:Value}{wr:W8}(h:Ao w st met v wr)(o:Obj):Ao w st met v (wr.alloc o):=
 have hs:=h.sz
 ⟨h.row.alloc o,h.map.alloc o,h.below.alloc (by omega) _,by simp;omega⟩
variable {x:B8} {wr w1 w:W8} {v:Value} {st met:List B8}
theorem Ao.put (h:Ao w st met v wr)(hm:fD Tryz.prog 9 w1 w.heap.size (met.length+1) (zxk (zr3 met) x (.agg #[])))(hg:wr.grownBy w1 (some w.heap.size)):Ao w st (met++[x]) v w1:=by
 have hs:=h.sz;have hz:=hg.size;refine⟨xI h.row (λ g e=>hg.block g ((h.row.lt g e).2) (by have:=(h.row.lt g e).1;simp;omega)),?_,?_,by omega⟩
 ·rw[z36] at hm;simpa using hm
 ·exact h.below.trans ⟨hg.os,hg.tape,hg.output,hg.size,λ i hi=>hg.block i (by omega) (by simp;omega)⟩
theorem Ao.push {v':Value}(h:Ao w st met v wr)(aC:w1.ownsRow (w.heap.size+1) 9 1 v' (st.length+1) (tk st++[.string x]))(hg:wr.grownBy w1 v.ownBlock):Ao w (st++[x]) met v' w1:=by
 have hs:=h.sz;have hz:=hg.size;have hr:∀ g,v.ownBlock=some g->w.heap.size+1<=g:=λ g e=>(h.row.lt g e).1
 refine⟨by simpa[tk] using aC,h.map.block (hg.block _ hs (λ e=>by have:=hr _ e.symm;omega)),?_,by omega⟩;exact h.below.trans ⟨hg.os,hg.tape,hg.output,hg.size,λ i hi=>hg.block i (by omega) (λ e=>by have:=hr _ e.symm;omega)⟩
theorem z3o (w:W8)(p:B8):Ao w [p] [] (.slice (some ⟨w.heap.size+1,0,none⟩) 1 1) ((w.alloc (.map #[] 0)).alloc (.cells #[.string p] 9)):=by
 refine⟨⟨by simp[tk],.inr ⟨w.heap.size+1,1,#[.string p],rfl,Nat.le_refl _,?_,Nat.le_refl _,by unfold maxLen;omega,by simp,by simp[tk]⟩⟩,?_,(B9.alloc L9 _).alloc (by simp) _,by simp;omega⟩
 ·have:=heap_alloc_new (w.alloc (.map #[] 0)) (.cells #[.string p] 9);rw[World.size_alloc] at this;exact this
 ·exact (fD.made Tryz.prog 9 w).alloc _
theorem z1n (w1:W8)(x:B8)(j:Nat)(u:Value)(h:([Value.string x]:V8)[j]?=some u):(w1.alloc (Obj.cells #[.string x] 9)).cell? ((⟨w1.heap.size,0,none⟩:Addr).add j)=some u:=cell_one_new w1 _ _ j u h
theorem z61 (E:List zgp):kC E []<=E.length:=List.length_filter_le _ _
theorem zrq (w:W8)(b n:Nat)(E:List zgp)(V:B8->Option Value)(p q:B8)(h:Lk b n E V w)(hE:E.length<=1000)(nS:∀ e∈E,e.2.size<=800)(kx:p.size<=800):
  Calls Tryz.prog 120 #[.map (some b),.string p,.string q] w λ e w'=>e=.returned (.bool (zfh E p q))/\Below w.heap.size w w':=by
 have uB:=@run_makeMap Tryz.prog;obtain⟨i0,hi,cQ,cz,cx⟩:=info_parts zew;have h0:=z3o w p;have uy:=z61 E;have HL:=zC h;have hwb:b<w.heap.size:=h.map.lt;clear h;go_enter Tryz.func120,Tryz.ntmps120;go_wp2_with fail
 go_loopg [8] (E.length+2) (λ gg v wr=>∃ (st met:List B8),st.length+kC E met<=gg/\st.length+kC E met<=E.length+1/\met.length+kC E met<=E.length/\(∀ x∈st,x.size<=800)/\uw E p q st met none/\Ao w st met v wr)
 exact⟨[p],[],by simp;omega,by simp;omega,by simpa using uy,by simpa using kx,uw.start E p q,h0⟩
 case round=>
  clear h0 uy;obtain⟨st,met,dI,zu,LF,Cl,nF,hinv⟩:=hrel;rcases List.eq_nil_or_concat st with rfl | ⟨ky,x,rfl⟩
  ·obtain⟨a1,c1,rfl⟩:=zD hinv.row;have HS:=zC nF.ends;have HI:=zC hinv;clear nF hinv;go_wp2_with fail;go_ret;exact⟨by rw[zA HS];rfl,(zA HI).below⟩
  ·rw[List.concat_eq_append] at dI zu Cl nF hinv;obtain⟨g,cap,rfl,oN,bR,cZ,da,eT⟩:=z4f hinv.row;have LX:=z7z hinv.row;obtain⟨FA,Cd⟩:=nF.pop;have hlen:((ky++[x]).length:Int)=(ky.length:Int)+1:=(by simp);have yd:(ky++[x]).length=ky.length+1:=(by simp);rw[yd] at dI zu cZ;have hx8:x.size<=800:=Cl x (by simp);have nU:x.size<=maxLen:=(by unfold maxLen;omega);have L6:∀ y∈ky,y.size<=800:=λ y hy=>Cl y (by simp[hy])
   have I0:=(zA HL).below hinv.below;have hu:=I0.at_ x;obtain⟨au,cu,Fa⟩:=zD hu;have Uj:=I0.map;have YH:=yN hu;unfold maxLen at da YH;have dj:Ao w ky met (.slice (some ⟨g,0,none⟩) ky.length cap) wr:=⟨LX,hinv.map,hinv.below,hinv.sz⟩;have HU:=zC (show w.ownsRow (b+1) 9 1 (.slice au (tgt E x).length cu) (tgt E x).length (tk (tgt E x)) by rw[<-Fa];exact (zA HL).at_ x);clear nF hinv LX I0 hu Cl;rw[yd];go_wp2_with (first | (at_lookup;refine zgk _ rfl _ _ 224 rfl 9 33 Tryz.underlying9 Tryz.underlying224 (Tryz.zeroValue33 _) b n V rfl Uj x rfl nU _ Fa ?_));obtain⟨G,hG,W3,hGE⟩:∃ G,ky.length+kC E met<=G/\G<gk/\G<=E.length:=⟨_,Nat.le_refl _,by omega,by omega⟩;clear dI eT Uj oN bR
   go_loopg [8,35] (tgt E x).length (λ gg2 v i wr=>∃ (j:Nat) (st met:List B8),j<=(tgt E x).length/\gg2=(tgt E x).length-j/\i=.int .i64 j/\st.length+kC E met<=G/\met.length+kC E met<=E.length/\(∀ y∈st,y.size<=800)/\uw E p q st met (some x)/\Ao w st met v wr/\∀ z∈(tgt E x).take j,z≠q/\z∈met)
   exact⟨0,ky,met,Nat.zero_le _,rfl,rfl,hG,LF,L6,FA,dj,by simp⟩
   case round=>
    clear dj FA L6 LF hG;obtain⟨j,st,met,hj,BI,rfl,hG,LF,Cl,nF,hinv,kv⟩:=hrel;obtain⟨a1,c1,rfl⟩:=zD hinv.row
    by_cases ig:j<(tgt E x).length
    ·have hu:=zH (zA HU) hinv.below (λ g e=>((zA HU).lt g e).2);obtain⟨g',kD,rK,D4,XF,Aa,BA,mY⟩:=z70 hu j ig;injection rK with h1 h2 h3
     subst h1 h3;have hz:(tgt E x)[j]∈tgt E x:=List.getElem_mem ig;have UW:=zno.1 hz;have UU:=nS _ UW;simp only at UU;have NU:(tgt E x)[j].size<=maxLen:=(by unfold maxLen;omega);have FF:(tgt E x).take (j+1)=(tgt E x).take j++[(tgt E x)[j]]:=List.take_succ_eq_append_getElem ig;have lR:=zC FF;clear hu FF;generalize UX:(tgt E x)[j]=z at *
     cases hq:z.toList==q.toList with
     | true=>
      have Mm:z=q:=vO.1 hq;have HR:=zC (zza Cd (q:=q) (by rw[<-Mm];exact hz));have HI:=zC hinv;clear hinv nF kv Mm hG;go_wp2_with fail;go_ret;exact⟨by rw[zA HR];rfl,(zA HI).below⟩
     | false=>
      have Mm:z≠q:=λ e=>by rw[e] at hq;simp at hq
      have S2:=zC Mm;clear Mm;have eV:=hinv.map;have En:(zr3 met z).getD (.agg #[])=.agg #[]:=by unfold zr3;split <;> rfl
      cases hm:zcz met z with
      | true=>
       have oO:(zr3 met z).isSome=true:=(by unfold zr3;rw[if_pos hm];rfl);have HI:=zC (hinv.alloc (.cells #[] 299))
       have HD:=zC (show ∀ y∈(tgt E x).take (j+1),y≠q/\y∈met from λ y hy=>by
        rw[zA lR] at hy;rcases List.mem_append.1 hy with hy | hy
        ·exact kv y hy
        ·simp at hy;subst hy;exact⟨zA S2,qC.1 hm⟩)
       have HS:=zC nF;clear hinv kv nF hm;go_wp2_with (first | (at_lookup;refine jX _ rfl _ _ 298 rfl 9 299 Tryz.underlying9 Tryz.underlying298 (Tryz.zeroValue299 _) w.heap.size met.length (zr3 met) rfl eV z rfl NU _ En _ oO ?_));go_roundg ((tgt E x).length-(j+1));exact⟨j+1,st,met,by omega,rfl,by go_num,hG,LF,Cl,zA HS,zA HI,zA HD⟩;omega
      | false=>
       have oO:(zr3 met z).isSome=false:=(by unfold zr3;rw[hm];rfl);have P5:=z62 UW hm;have Az:=hinv.alloc (.cells #[] 299);have Ft:=Az.map;have HI:=zC Az;have HS:=zC (nF.push Cd hz);have EJ:=zC kv;have vp:st.length<=1000:=(by omega);clear hinv nF hm Az kv;go_wp2_with (first | (at_lookup;refine jX _ rfl _ _ 298 rfl 9 299 Tryz.underlying9 Tryz.underlying298 (Tryz.zeroValue299 _) w.heap.size met.length (zr3 met) rfl eV z rfl NU _ En _ oO ?_) | (at_mapUpdate;refine zme _ rfl _ _ _ 298 rfl 9 299 Tryz.underlying9 Tryz.underlying298 w.heap.size met.length (zr3 met) rfl Ft (by unfold maxLen;omega) z (.agg #[]) (by rfl) (by rfl) NU ?_));intro w3 kP hg3;have iV:=(zA HI).put kP hg3;have Eu:=iV.sz;have bT:=iV.row.alloc (.cells #[.string z] 9);have lj:=zC (iV.alloc (.cells #[.string z] 9));clear kP hg3 eV Ft HI iV;go_wp2_with (at_builtin;refine wpList_append_own _ rfl _ _ 33 rfl (w.heap.size+1) 9 i0 _ 1 16 Tryz.underlying33 hi cQ cz cx rfl (by decide) _ _ _ rfl bT ⟨w3.heap.size,0,none⟩ 1 1 [.string z] rfl rfl (z1n w3 _) (z1o _) (by unfold maxLen;omega) (by omega) (by simp;omega) ?_);intro v5 w5 aj aU hne5;clear hne5;obtain⟨a5,ie,rfl⟩:=zD aj;have zl:=(zA lj).push aj aU;have xj:=zC zl;clear aj aU bT zl lj;go_wp2_with fail;go_roundg ((tgt E x).length-(j+1))
       case measure=>omega
       case rel=>
        refine⟨j+1,st++[z],met++[z],by omega,rfl,by go_num,by simp;omega,by simp;omega,λ y hy=>?_,zA HS,?_,λ y hy=>?_⟩
        ·rcases List.mem_append.1 hy with hy | hy
         ·exact Cl y hy
         ·simp at hy;subst hy;exact UU
        ·have:=zA xj;simpa using this
        ·rw[zA lR] at hy;rcases List.mem_append.1 hy with hy | hy
         ·exact⟨(zA EJ y hy).1,by simp[(zA EJ y hy).2]⟩
         ·simp at hy;subst hy;exact⟨zA S2,by simp⟩
    ·have HS:=zC (nF.drop (λ z hz=>kv z (by rw[List.take_of_length_le (by omega)];exact hz)));have HI:=zC hinv;clear hinv nF kv;go_wp2_with fail;go_roundg G;exact⟨st,met,hG,by omega,LF,Cl,zA HS,zA HI⟩;exact W3
end
section
open Go.RowKit Go.Maps
def zlj (rs:List vX)(n:Nat):B8:=match rs[n]? with | some R=>R.pd | none=>{ data:=#[] }
noncomputable def z51 (rs:List vX)(M:xU):Bool:=M.neg&&(M.pd.toList==(zlj rs M.num).toList||zfh (vY rs) M.pd (zlj rs M.num))
noncomputable def qO (rs:List vX):List xU->Int
 | []=>-1
 | M::r=>if z51 rs M then (M.start:Int) else qO rs r
variable {rs:List vX}
theorem zrj {ms:List (xU × Value)}{k:Nat}(h:k<ms.length):qO rs ((ms.map (·.1)).drop k)=if z51 rs ms[k].1 then (ms[k].1.start:Int) else qO rs ((ms.map (·.1)).drop (k+1)):=by
 rw[List.drop_eq_getElem_cons (by simpa using h),qO];simp
theorem zvj (h:∀ R∈rs,∀ l∈R.body,l.pd.size<=800):∀ e∈vY rs,e.2.size<=800:=by
 intro e he;obtain⟨R,hR,he⟩:=List.mem_flatMap.1 he;obtain⟨l,hl,rfl⟩:=List.mem_map.1 he;exact h R hR l hl
theorem zyx (h:∀ R∈rs,R.body.length<=3):(vY rs).length<=3*rs.length:=by
 induction rs with
 | nil=>simp[vY]
 | cons R r ih=>
  have h1:=ih (λ x hx=>h x (List.mem_cons_of_mem _ hx));have h2:=h R List.mem_cons_self;have e:vY (R::r)=zff R.pd R.body++vY r:=by simp[vY]
  rw[e,List.length_append,List.length_cons];simp only[zff,List.length_map];omega
structure Few (rs:List PR)(ms:List (xU × Value)):Prop where
 r30:rs.length<=30
 Mr:ms.length<=1000
 b3:∀ r∈rs,r.bs.length<=3
 rpd:∀ r∈rs,r.R.pd.size<=800
 U1:∀ R∈rs.map (·.R),∀ l∈R.body,l.pd.size<=800
 Y0:∀ x∈ms,x.1.pd.size<=800
 Y3:∀ x∈ms,x.1.num<rs.length/\x.1.ts.length<=4
theorem zrk (w:W8)(base:Nat)(ar:O8)(cr:Nat)(rs:List PR)(am:O8)(cm:Nat)(ms:List (xU × Value))(h:l8 w base (.slice ar rs.length cr) rs)(h':iQ w base (.slice am ms.length cm) ms)(hf:Few rs ms):
  Calls Tryz.prog 77 #[.agg #[.slice ar rs.length cr,.slice am ms.length cm]] w λ e w'=>e=zhy (qO (rs.map (·.R)) (ms.map (·.1)))/\Below w.heap.size w w':=by
 obtain⟨Ej,LA,eG,Rg,QA,QK,QM⟩:=hf;have Kv:=zvj QA;have PF:(vY (rs.map (·.R))).length<=1000:=by
  have:=zyx (rs:=rs.map (·.R)) (λ R hR=>by
   obtain⟨r,hr,rfl⟩:=List.mem_map.1 hR;have h1:=eG r hr;have h2:=(h.each r hr).eq
   rw[<-h2];simpa using h1)
  simp at this;omega
 have h0:=CO.start h h';have Ad:=yN h.row;unfold maxLen at Ad;have TE:=h0.rules;obtain⟨x1,td⟩:=zB h0.box 1;clear h h';go_enter Tryz.func77,Tryz.ntmps77;go_wp2_with fail;refine (zzu _ base ar cr rs TE Rg eG Ej).mono ?_;rintro e w1 ⟨rfl,aM,cz,V,aE⟩;have h1:=h0.next aM;obtain⟨y1,Jh⟩:=zB h1.box 1;rw[World.size_alloc] at aE cz ⊢;clear h0 TE x1 td aM;go_wp2_with fail
 go_loopg [15] ms.length (λ gg i wr=>∃ k:Nat,k<=ms.length/\gg=ms.length-k/\i=.int .i64 k/\CO w base (.slice ar rs.length cr) (.slice am ms.length cm) rs ms wr/\Lk (w.heap.size+1) (vY (rs.map (·.R))).length (vY (rs.map (·.R))) V wr/\qO (rs.map (·.R)) (ms.map (·.1))=qO (rs.map (·.R)) ((ms.map (·.1)).drop k))
 exact⟨0,Nat.zero_le _,rfl,rfl,h1,aE,rfl⟩
 case round=>
  clear h1 aE y1 Jh cz;obtain⟨k,hk,iZ,rfl,hinv,aE,ax⟩:=hrel;have HF:=zC ax;clear ax
  by_cases hlkk:k<ms.length
  ·have az:=zC ((zA HF).trans (zrj hlkk));obtain⟨g,cap,hv,oN,bR,cZ,da,hc⟩:=vU zr2 hinv.iY.row k hlkk;injection hv with h1 h2 h3
   subst h1 h3;obtain⟨bp,fw,km⟩:=zD (hinv.iY.each _ (List.getElem_mem hlkk));have q0:=hc 0 (by omega);have q1:=hc 1 (by omega);have q2:=hc 2 (by omega);have q3:=hc 3 (by omega);have q4:=hc 4 (by omega);have q5:=hc 5 (by omega);have q6:=hc 6 (by omega);have q7:=hc 7 (by omega);have q8:=hc 8 (by omega);have q9:=hc 9 (by omega);simp only[xU.cells,km,Nat.add_zero,List.getElem?_cons_zero,List.getElem?_cons_succ] at q0 q1 q2 q3 q4 q5 q6 q7 q8 q9;obtain⟨pn,NP⟩:=QM _ (List.getElem_mem hlkk);obtain⟨gr,eR,rh,Bt,BJ,B0,BB,lP⟩:=vU zly hinv.rules.row ms[k].1.num pn;injection rh with h4 h5 h6
   subst h4 h6;have r0:=lP 0 (by omega);simp only[PR.cells,Nat.add_zero,List.getElem?_cons_zero] at r0;obtain⟨x0,AR⟩:=zB hinv.box 0;have bA:=(Below.refl wr.heap.size wr).alloc L9 (.cells #[.int .i64 ms[k].1.num,.bool ms[k].1.neg,.string ms[k].1.pd,.slice bp ms[k].1.ts.length fw,.int .i64 ms[k].1.start,.int .i64 ms[k].1.place,.int .i64 (ms[k].1.pl 0),.int .i64 (ms[k].1.pl 1),.int .i64 (ms[k].1.pl 2),.int .i64 (ms[k].1.pl 3)] 221);have hI:=hinv.next bA;have hL:=aE.below bA;have rE:zlj (rs.map (·.R)) ms[k].1.num=rs[ms[k].1.num].R.pd:=by
    unfold zlj;rw[List.getElem?_map,List.getElem?_eq_getElem pn];rfl
   have kx:=QK _ (List.getElem_mem hlkk);have aT:=hinv.sz;have HI:=zC hI;clear hc lP HF hinv aE hI km bA;have K7:z51 (rs.map (·.R)) ms[k].1=(ms[k].1.neg&&(ms[k].1.pd.toList==rs[ms[k].1.num].R.pd.toList||zfh (vY (rs.map (·.R))) ms[k].1.pd rs[ms[k].1.num].R.pd)):=(by unfold z51;rw[rE]);rw[K7] at az;clear rE K7
   cases cO:ms[k].1.neg with
   | false=>
    rw[cO] at az q1 HI;have aQ:=zC (show qO (rs.map (·.R)) (ms.map (·.1))=qO (rs.map (·.R)) ((ms.map (·.1)).drop (k+1)) from zA az);rw[cO] at hL;have HL:=zC hL;clear az cO hL;go_wp2_with fail;go_roundg (ms.length-(k+1));exact⟨k+1,by omega,rfl,by go_num,zA HI,zA HL,zA aQ⟩;omega
   | true=>
    rw[cO] at az q1 HI hL;have HN:=zC cO;clear cO
    cases heq:ms[k].1.pd.toList==rs[ms[k].1.num].R.pd.toList with
    | true=>
     rw[heq] at az;have aQ:=zC (show qO (rs.map (·.R)) (ms.map (·.1))=(ms[k].1.start:Int) from zA az);clear az hL;go_wp2_with fail
     go_ret2
     refine⟨?_,(zA HI).below⟩;rw[zA aQ];unfold zhy;rw[if_pos (by omega)];simp
    | false=>
     rw[heq] at az;go_wp2_with fail;refine (zrq _ (w.heap.size+1) _ (vY (rs.map (·.R))) V ms[k].1.pd rs[ms[k].1.num].R.pd hL PF Kv kx).mono ?_;rintro e w2 ⟨rfl,aH⟩;have cx:=aH.size;rw[World.size_alloc] at cx;have tL:(wr.alloc (.cells #[.int .i64 ms[k].1.num,.bool true,.string ms[k].1.pd,.slice bp ms[k].1.ts.length fw,.int .i64 ms[k].1.start,.int .i64 ms[k].1.place,.int .i64 (ms[k].1.pl 0),.int .i64 (ms[k].1.pl 1),.int .i64 (ms[k].1.pl 2),.int .i64 (ms[k].1.pl 3)] 221)).heap[wr.heap.size]?=_:=heap_alloc_new wr _;have tM:=(aH.block wr.heap.size (by simp)).trans tL;obtain⟨z4,R6⟩:=zB tM 4;have iR:=zC ((zA HI).next aH);have JP:=zC (hL.below aH);clear q0 q1 q2 q3 q4 q5 q6 q7 q8 q9 r0 x0 AR hL HI tL tM
     cases hh:zfh (vY (rs.map (·.R))) ms[k].1.pd rs[ms[k].1.num].R.pd with
     | true=>
      rw[hh] at az;have aQ:=zC (show qO (rs.map (·.R)) (ms.map (·.1))=(ms[k].1.start:Int) from zA az);clear az hh;go_wp2_with fail
      go_ret2
      refine⟨?_,(zA iR).below⟩;rw[zA aQ];unfold zhy;rw[if_pos (by omega)];simp
     | false=>
      rw[hh] at az;have aQ:=zC (show qO (rs.map (·.R)) (ms.map (·.1))=qO (rs.map (·.R)) ((ms.map (·.1)).drop (k+1)) from zA az);clear az hh z4 R6;go_wp2_with fail;go_roundg (ms.length-(k+1));exact⟨k+1,by omega,rfl,by go_num,zA iR,zA JP,zA aQ⟩;omega
  ·have az:=zC (show qO (rs.map (·.R)) (ms.map (·.1))=-1 by rw[zA HF,List.drop_of_length_le (by simp;omega)];rfl);have HI:=zC hinv;clear HF hinv aE;go_wp2_with fail
   go_ret2
   exact⟨by rw[zA az];rfl,(zA HI).below⟩
end
section
theorem zwi (s:B8)(f:Nat):∀ {p:Nat} {l:List (Bool × B8)} {pl:Nat->Nat},(yE s f p l pl).2.2.1.length<=l.length+f:=by
 induction f with
 | zero=>intro p l pl;simp[yE]
 | succ f ih=>
  intro p l pl;rw[yE]
  split
  ·split
   ·refine Nat.le_trans ih ?_;first | (simp;done) | (simp;omega)
   ·first | (simp;done) | (simp;omega)
  ·first | (simp;done) | (simp;omega)
theorem zjd {s:B8}{p q:Nat}{pd:B8}{ts:List (Bool × B8)}{pl:Nat->Nat}(h:x9 s p=.yes q pd ts pl):pd.size<=s.size/\ts.length<=4:=by
 unfold x9 at h
 by_cases c1:(zG s p).1=2
 ·rw[if_pos c1] at h
  by_cases c2:(zG s (zG s p).2.2).1=5
  ·rw[if_pos c2] at h
   by_cases c3:(yE s 4 (zG s (zG s p).2.2).2.2 [] (λ _=>0)).1=true
   ·rw[if_pos c3] at h;injection h with h1 h2 h3 h4
    subst h2 h3;refine⟨R8 s p,?_⟩;have:=zwi s 4 (p:=(zG s (zG s p).2.2).2.2) (l:=[]) (pl:=λ _=>0);simpa using this
   ·rw[if_neg c3] at h;cases h
  ·rw[if_neg c2] at h;injection h with h1 h2 h3 h4
   subst h2 h3;exact⟨R8 s p,by simp⟩
 ·rw[if_neg c1] at h;cases h
def OkM (s:B8)(M:xU):Prop:=M.pd.size<=s.size/\M.ts.length<=4
def OkL (s:B8)(L:vJ):Prop:=L.pd.size<=s.size
def OkR (s:B8)(R:vX):Prop:=R.pd.size<=s.size/\R.body.length<=3/\∀ l∈R.body,OkL s l
theorem z4k (s:B8)(num f:Nat):∀ {p:Nat} {l:List vJ} {ms:List xU},(∀ x∈l,OkL s x)->(∀ M∈ms,OkM s M)->(jE s num f p l ms).2.2.1.length<=l.length+f/\(∀ x∈(jE s num f p l ms).2.2.1,OkL s x)/\(∀ M∈(jE s num f p l ms).2.2.2,OkM s M):=by
 induction f with
 | zero=>intro p l ms hl hm;exact⟨by simp[jE],hl,hm⟩
 | succ f ih=>
  intro p l ms hl hm;rw[jE]
  cases hr:x9 s (yU s p 4) with
  | no q=>exact⟨by simp,hl,hm⟩
  | yes q pd ts pl=>
   obtain⟨o1,o2⟩:=zjd hr;have rG:∀ x∈l++[yv s p pd ts],OkL s x:=λ x hx=>by
    rcases List.mem_append.1 hx with hx | hx
    ·exact hl x hx
    ·simp at hx;subst hx;exact o1
   have qp:∀ M∈ms++[CP s num p pd ts pl],OkM s M:=λ x hx=>by
    rcases List.mem_append.1 hx with hx | hx
    ·exact hm x hx
    ·simp at hx;subst hx;exact⟨o1,o2⟩
   simp only
   split
   ·obtain⟨a,b,c⟩:=ih (p:=(zG s q).2.2) rG qp;refine⟨Nat.le_trans a ?_,b,c⟩
    first | (simp;done) | (simp;omega)
   ·exact⟨by first | (simp;done) | (simp;omega),rG,qp⟩
variable {ms:List xU}
theorem z4p (s:B8)(num p:Nat)(hm:∀ M∈ms,OkM s M):OkR s (vB s num p ms).2.2.1/\∀ M∈(vB s num p ms).2.2.2,OkM s M:=by
 unfold vB
 cases hr:x9 s p with
 | no q=>exact⟨⟨Nat.zero_le _,by simp,by simp⟩,hm⟩
 | yes q pd ts pl=>
  obtain⟨o1,o2⟩:=zjd hr;have qp:∀ M∈ms++[uI s num p pd ts pl],OkM s M:=λ x hx=>by
   rcases List.mem_append.1 hx with hx | hx
   ·exact hm x hx
   ·simp at hx;subst hx;exact⟨o1,o2⟩
  simp only
  split
  ·exact⟨⟨o1,by simp,by simp⟩,qp⟩
  ·split
   ·obtain⟨a,b,c⟩:=z4k s num 3 (p:=(zG s q).2.2) (l:=[]) (by simp) qp;exact⟨⟨o1,by simpa using a,b⟩,c⟩
   ·exact⟨⟨o1,by simp,by simp⟩,qp⟩
theorem z0z (s:B8)(f:Nat):∀ {p:Nat} {rs:List vX} {ms:List xU},(∀ R∈rs,OkR s R)->(∀ M∈ms,OkM s M)->(∀ R∈(jO s f p rs ms).2.2.1,OkR s R)/\(∀ M∈(jO s f p rs ms).2.2.2,OkM s M):=by
 induction f with
 | zero=>intro p rs ms hr hm;exact⟨hr,hm⟩
 | succ f ih=>
  intro p rs ms hr hm;obtain⟨o1,o2⟩:=z4p s rs.length p hm;rw[jO]
  split
  ·exact⟨hr,hm⟩
  ·split
   ·exact⟨hr,hm⟩
   ·split
    ·refine ih (λ R hR=>?_) o2;rcases List.mem_append.1 hR with hR | hR
     ·exact hr R hR
     ·simp at hR;subst hR;exact o1
    ·exact⟨hr,o2⟩
theorem z5i {n:Nat}{rs:List zP}(h:jZ n rs ms):∀ M∈ms,n<=M.num/\M.num<n+rs.length:=by
 induction h with
 | nil n=>simp
 | cons h t ih=>
  intro M hM;rcases List.mem_append.1 hM with hM | hM
  ·obtain⟨q,_,q2,q3⟩:=h;rw[<-q2] at hM;obtain⟨x,hx,rfl⟩:=List.mem_map.1 hM;have:=(q3 x hx).num;simp;omega
  ·have:=ih M hM;simp;omega
theorem zlx (s:B8)(hs:s.size<=800)(h:(yS s).1=true):(∀ R∈(yS s).2.2.1,R.pd.size<=800/\R.body.length<=3/\∀ l∈R.body,l.pd.size<=800)/\(∀ M∈(yS s).2.2.2,M.pd.size<=800/\M.ts.length<=4/\M.num<(yS s).2.2.1.length):=by
 obtain⟨o1,o2⟩:=z0z s 31 (p:=0) (rs:=[]) (ms:=[]) (by simp) (by simp);obtain⟨_,e2,e3⟩:=(zg7 s).1 h;refine⟨λ R hR=>?_,λ M hM=>?_⟩
 ·obtain⟨a,b,c⟩:=o1 R hR;exact⟨Nat.le_trans a hs,b,λ l hl=>Nat.le_trans (c l hl) hs⟩
 ·obtain⟨a,b⟩:=o2 M hM;have:=(z5i e3 M hM).2;rw[e2];exact⟨Nat.le_trans a hs,b,by simpa using this⟩
end
section
open Go.RowKit Go.Maps
noncomputable def zea (rs:List vX)(ms:List xU):Int × Int:=
 if 0<=zb7 ms [] then (3,zb7 ms []) else if 0<=jM rs ms then (4,jM rs ms) else if 0<=qO rs ms then (5,qO rs ms) else (0,0)
theorem zy1 (w:W8)(base:Nat)(ar:O8)(cr:Nat)(rs:List PR)(am:O8)(cm:Nat)(ms:List (xU × Value))(h:l8 w base (.slice ar rs.length cr) rs)(h':iQ w base (.slice am ms.length cm) ms)(hf:Few rs ms):
  Calls Tryz.prog 46 #[.agg #[.slice ar rs.length cr,.slice am ms.length cm]] w λ e w'=>e=.returned (.tuple #[.int .i64 (zea (rs.map (·.R)) (ms.map (·.1))).1,.int .i64 (zea (rs.map (·.R)) (ms.map (·.1))).2])/\Below w.heap.size w w':=by
 have h0:=CO.start h h';have hF:zea (rs.map (·.R)) (ms.map (·.1))=_:=zea.eq_1 (rs.map (·.R)) (ms.map (·.1));have HF:=zC hF;clear h h' hF;go_enter Tryz.func46,Tryz.ntmps46;go_wp2_with fail;refine (zv8 _ base ar rs.length cr am cm ms h0.iY hf.Mr hf.Y0).mono ?_;rintro e w1 ⟨he,aM⟩;have h1:=h0.next aM;obtain⟨x0,AR⟩:=zB h1.box 0;obtain⟨x1,td⟩:=zB h1.box 1;have Ek:=h1.sz;clear h0 aM
 by_cases c1:0<=zb7 (ms.map (·.1)) []
 ·have kM:=zC ((zA HF).trans (if_pos c1));have oa:e=.returned (.tuple #[.int .i64 (zb7 (ms.map (·.1)) []),.bool true]):=by rw[he];unfold zhy;rw[if_pos c1];simp[c1]
  subst oa;have HB:=zC h1.below;clear HF he c1 h1;go_wp2_with fail
  go_ret2
  exact⟨by rw[zA kM];rfl,zA HB⟩
 ·have kM:=zC ((zA HF).trans (if_neg c1));have oa:e=.returned (.tuple #[.int .i64 0,.bool false]):=by rw[he];unfold zhy;rw[if_neg c1];simp[c1]
  subst oa;clear HF he c1;go_wp2_with fail;refine (zst _ base ar cr rs am cm ms h1.rules h1.iY hf.Mr hf.Y3 (λ r hr=>by have:=hf.b3 r hr;omega)).mono ?_;rintro e w2 ⟨he,aH⟩;have h2:=h1.next aH;clear h1 aH x0 x1 AR td;obtain⟨x0,AR⟩:=zB h2.box 0;obtain⟨x1,td⟩:=zB h2.box 1;have vs:=h2.sz
  by_cases c2:0<=jM (rs.map (·.R)) (ms.map (·.1))
  ·have az:=zC ((zA kM).trans (if_pos c2));have oa:e=.returned (.tuple #[.int .i64 (jM (rs.map (·.R)) (ms.map (·.1))),.bool true]):=(by rw[he];unfold zhy;rw[if_pos c2];simp[c2]);subst oa;have HB:=zC h2.below;clear kM he c2 h2;go_wp2_with fail
   go_ret2
   exact⟨by rw[zA az];rfl,zA HB⟩
  ·have az:=zC ((zA kM).trans (if_neg c2));have oa:e=.returned (.tuple #[.int .i64 0,.bool false]):=(by rw[he];unfold zhy;rw[if_neg c2];simp[c2]);subst oa;clear kM he c2;go_wp2_with fail;refine (zrk _ base ar cr rs am cm ms h2.rules h2.iY hf).mono ?_;rintro e w3 ⟨he,eG⟩;have h3:=h2.next eG;have HB:=zC h3.below;clear h2 eG x0 x1 AR td h3
   by_cases c3:0<=qO (rs.map (·.R)) (ms.map (·.1))
   ·have aQ:=zC ((zA az).trans (if_pos c3));have oa:e=.returned (.tuple #[.int .i64 (qO (rs.map (·.R)) (ms.map (·.1))),.bool true]):=(by rw[he];unfold zhy;rw[if_pos c3];simp[c3]);subst oa;clear az he c3;go_wp2_with fail
    go_ret2
    exact⟨by rw[zA aQ];rfl,zA HB⟩
   ·have aQ:=zC ((zA az).trans (if_neg c3));have oa:e=.returned (.tuple #[.int .i64 0,.bool false]):=(by rw[he];unfold zhy;rw[if_neg c3];simp[c3]);subst oa;clear az he c3;go_wp2_with fail
    go_ret2
    exact⟨by rw[zA aQ];rfl,zA HB⟩
noncomputable def z0w (s:B8):Bool × Int × Int:=
 if 800<s.size then (false,1,0)
 else if (yS s).1=false then (false,2,(zG s (yS s).2.1).2.1)
 else if (zea (yS s).2.2.1 (yS s).2.2.2).1≠0 then (false,(zea (yS s).2.2.1 (yS s).2.2.2).1,(zea (yS s).2.2.1 (yS s).2.2.2).2)
 else (true,0,0)
def yu (w:W8)(base b:Nat)(rs:List PR):Prop:=∃ (a:O8) (c:Nat),w.heap[b]?=some (.cells #[.slice a rs.length c] 106 (0,0))/\base<=b/\l8 w base (.slice a rs.length c) rs
def z2r (w:W8)(P:Bool × Int × Int)(rules:List vX)(e:Ending)(w':W8):Prop:=
 Below w.heap.size w w'/\(P.1=false->e=.returned (.tuple #[.pointer none,.int .i64 P.2.1,.int .i64 P.2.2])) /\
 (P.1=true->∃ (b:Nat) (rs:List PR),e=.returned (.tuple #[.pointer (some ⟨b,0,none⟩),.int .i64 P.2.1,.int .i64 P.2.2])/\yu w' w.heap.size b rs/\rs.map (·.R)=rules)
theorem zp6 (w:W8)(s:B8)(hs:s.size<=maxLen):
  Calls Tryz.prog 30 #[.string s] w (z2r w (z0w s) (yS s).2.2.1):=by
 have hP:z0w s=_:=z0w.eq_1 s;have HP:=zC hP;clear hP;unfold maxLen at hs
 by_cases c0:800<s.size
 ·have WC:800<(s.size:Int):=by omega
  have DF:=zC ((zA HP).trans (if_pos c0));clear HP c0;go_enter Tryz.func30,Tryz.ntmps30;go_wp2_with fail
  go_ret3
  rw[zA DF];exact⟨Below.refl _ _,λ _=>rfl,λ e=>by cases e⟩
 ·have WC:¬ 800<(s.size:Int):=by omega
  have DF:=zC ((zA HP).trans (if_neg c0));have Cl:s.size<=800:=by omega
  clear HP c0;go_enter Tryz.func30,Tryz.ntmps30;go_wp2_with fail;refine (zwg _ s (by omega)).mono ?_;rintro e w1 ⟨aM,aR,ri⟩
  cases c1:(yS s).1 with
  | false=>
   have qv:=zC ((zA DF).trans (if_pos c1));have he:=aR c1;subst he;clear aR ri DF c1;go_wp2_with fail
   go_ret3
   rw[zA qv];exact⟨aM.alloc aM.size _,λ _=>rfl,λ e=>by cases e⟩
  | true=>
   have qv:=zC ((zA DF).trans (if_neg (by rw[c1];decide)));obtain⟨a,n,c,a',n',c',rs,ms,rfl,hR,sX,hM,lg,Ej,LA⟩:=ri c1;obtain⟨ar,cr,lB⟩:=zD hR.row;obtain⟨am,cm,Eo⟩:=zD hM.row;injection lB with h1 h2 h3
   injection Eo with h4 h5 h6
   subst h1 h2 h3 h4 h5 h6;obtain⟨o1,o2⟩:=zlx s Cl c1;rw[<-sX] at o1 o2;rw[<-lg] at o2;rw[<-sX,<-lg] at qv;have Aw:=zC sX;have hf:Few rs ms:=by
    refine⟨Ej,by omega,λ r hr=>?_,λ r hr=>(o1 _ (List.mem_map_of_mem hr)).1,λ R hR l hl=>(o1 R hR).2.2 l hl,λ x hx=>(o2 _ (List.mem_map_of_mem hx)).1,λ x hx=>?_⟩
    ·have h1:=(o1 _ (List.mem_map_of_mem hr)).2.1;have h2:=(hR.each r hr).eq;rw[<-h2] at h1;simpa using h1
    ·obtain⟨_,h2,h3⟩:=o2 _ (List.mem_map_of_mem hx);exact⟨by simpa using h3,h2⟩
   have kA:=(Below.refl w1.heap.size w1).alloc L9 (.cells #[.slice a rs.length c,.slice a' ms.length c'] 100);have PT:=hR.below kA;have Ts:=hM.below kA;have ed:(w1.alloc (.cells #[.slice a rs.length c,.slice a' ms.length c'] 100)).heap[w1.heap.size]?=_:=heap_alloc_new w1 _;have nj:=aM.size;have lE:=aM.trans (kA.mono nj);clear aR ri DF c1 hR hM sX lg o1 o2 kA;go_wp2_with fail;refine (zy1 _ w.heap.size a c rs a' c' ms PT Ts hf).mono ?_;rintro e w2 ⟨rfl,aH⟩;have cx:=aH.size;rw[World.size_alloc] at cx;have C9:=PT.below aH;have lV:=(aH.block w1.heap.size (by simp)).trans ed;have lf:=lE.trans (aH.mono (by simp;omega));obtain⟨x0,AR⟩:=zB lV 0;clear PT Ts ed lV aH lE
   by_cases c2:(zea (rs.map (·.R)) (ms.map (·.1))).1≠0
   ·have WE:((zea (rs.map (·.R)) (ms.map (·.1))).1 != 0)=true:=(by simpa using c2);have sN:=zC ((zA qv).trans (if_pos c2));clear qv c2;go_wp2_with fail
    go_ret3
    rw[zA sN];exact⟨lf,λ _=>rfl,λ e=>by cases e⟩
   ·have WE:((zea (rs.map (·.R)) (ms.map (·.1))).1 != 0)=false:=(by simpa using c2);have sN:=zC ((zA qv).trans (if_neg c2));clear qv c2;go_wp2_with fail
    go_ret3
    rw[zA sN];have kB:=(Below.refl w2.heap.size w2).alloc L9 (.cells #[.slice a rs.length c] 106);exact⟨lf.trans (kB.mono (by omega)),λ e=>(by cases e),λ _=>⟨w2.heap.size,rs,rfl,⟨a,c,heap_alloc_new w2 _,by omega,C9.below kB⟩,zA Aw⟩⟩
end
end Go.Proofs.YtldkpahaocjdpaaGreat
