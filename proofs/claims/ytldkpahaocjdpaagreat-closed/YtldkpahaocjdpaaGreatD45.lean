/-
  Shows: what the bytes of a witness show of a thing.
-/
import Derived.Test.YtldkpahaocjdpaaGreatD43
import Derived.Sort.Walk0
import Derived.Test.YtldkpahaocjdpaaGreatD44
set_option maxHeartbeats 16000000
set_option maxRecDepth 1000000
namespace Go.Proofs.YtldkpahaocjdpaaGreat
section
open Go.RowKit Go.Maps
attribute [local go_sem ↓] vU xY xX xW
theorem zfo {ps:P9}{Sp:B8->Nat}{m m':Nat}(h:jS ps Sp m)(h':jS ps Sp m'):m=m':=by
 rcases h.2 with h0 | ⟨k,hk,e⟩
 ·rcases h'.2 with sZ | ⟨k',sl,e'⟩
  ·omega
  ·have:=h.1 k' sl;omega
 ·have h1:=h'.1 k hk;rcases h'.2 with sZ | ⟨k',sl,e'⟩
  ·omega
  ·have h2:=h.1 k' sl;omega
theorem z9h {pos:List Nat}:∀ (n:Nat) (rest:List Nat) (l:List (Nat × List Nat)),rdP pos n rest=some l->l.length=n/\∀ x∈l,pos[x.1]?=some x.2.length
 | 0,[],l,h=>by obtain rfl:=Option.some.inj h;simp
 | 0,_::_,l,h=>by cases h
 | _+1,[],l,h=>by cases h
 | n+1,r::q,l,h=>by
  rw[rdP] at h
  split at h
  ·cases h
  ·rename_i m hm
   split at h
   ·cases h
   ·rename_i hq
    split at h
    ·cases h
    ·rename_i l' mE;obtain rfl:=Option.some.inj h;obtain⟨h1,h2⟩:=z9h n _ l' mE;refine⟨by simp[h1],λ x hx=>?_⟩;rcases List.mem_cons.1 hx with rfl | hx
     ·simp only[List.length_take];rw[hm,Nat.min_eq_left (by omega)]
     ·exact h2 x hx
theorem z6c {rs:List PR}{bs:List Nat}{k:Nat}{ns:List (Nat × List Nat)}(h:zjz (zix rs) bs=some (k,ns)):ns.length<=50/\∀ x∈ns,∃ hx:x.1<rs.length,x.2.length=(zK rs[x.1].bs).length:=by
 match bs,h with
 | k'::n::rest,h=>
  unfold zjz at h;simp only at h
  split at h
  ·cases h
  ·rename_i hn;obtain⟨l,h1,h2⟩:=Option.map_eq_some_iff.1 h;injection h2 with _ h2
   subst h2;obtain⟨q1,q2⟩:=z9h n rest l h1;refine⟨by omega,λ x hx=>?_⟩;have:=q2 x hx;unfold zix at this;rw[List.getElem?_map] at this
   cases hr:rs[x.1]? with
   | none=>rw[hr] at this;cases this
   | some R=>
    rw[hr] at this;obtain⟨h5,h6⟩:=List.getElem?_eq_some_iff.1 hr;refine⟨h5,?_⟩;rw[h6];exact (Option.some.inj this).symm
noncomputable def zf6 (ps:P9)(Sp:B8->Nat)(k:Nat)(T:List Th)(t:Th):Nat:=open Classical in if t∈T then 1 else if (zZ ps t.p).isSome=true/\k<=Sp t.p then 3 else 2
def z5g (w:W8)(ps:P9)(Sp:B8->Nat)(rs:List PR)(bs:List Nat)(t:Th)(e:Ending)(w':W8):Prop:=
 Below w.heap.size w w'/\((∃ m k st,jS ps Sp m/\gI rs Sp m bs k st/\e=.returned (.int .i64 (zf6 ps Sp k (st.map (·.t)) t:Nat)))\/((∀ m k st,jS ps Sp m->¬ gI rs Sp m bs k st)/\e=.returned (.int .i64 (3:Nat))))
theorem Mq.shape {w w':W8}{F:Option (Nat × List (Nat × List Nat))}{e:Ending}(h:Mq w w' F e):(F=none/\e=.returned (.tuple #[.agg #[.int .i64 0,.slice none 0 0],.bool false]))\/∃ (k:Nat) (aJ:List ND) (a:O8) (c:Nat),F=some (k,aJ.map dX)/\jT w' w.heap.size (.slice a aJ.length c) aJ/\e=.returned (.tuple #[.agg #[.int .i64 (k:Nat),.slice a aJ.length c],.bool true]):=by
 cases h with
 | no=>exact .inl ⟨rfl,rfl⟩
 | yes h=>exact .inr ⟨_,_,_,_,rfl,h,rfl⟩
structure z9x (w:W8)(base tb n:Nat)(ps:P9)(Sp:B8->Nat)(rs:List PR)(rv:Value)(a:O8)(c:Nat)(bs:List Nat)(t:Th):Prop where
 rules:aD w base rv rs
 dh:∀ r∈rs,jZ ps r
 DP:qS Tryz.prog 9 w tb n (stV ps Sp)
 str:∀ k,(zZ ps k).isSome=true->Sp k<=1000000
 b:iP w a c bs
 th:zbj t
theorem z3q (w:W8)(base tb n:Nat)(ps:P9)(Sp:B8->Nat)(rs:List PR)(ar:O8)(cr:Nat)(a:O8)(c:Nat)(bs:List Nat)(t:Th)(h:z9x w base tb n ps Sp rs (.slice ar rs.length cr) a c bs t):
  Calls Tryz.prog 78 #[.slice a bs.length c,.slice ar rs.length cr,.map (some tb),thV t] w (z5g w ps Sp rs bs t):=by
 have H:=zC h;have fZ:=h.DP.lt;have nL:=h.th;obtain⟨ct,eM⟩:∃ ct,ct=(zJ t).toArray:=⟨_,rfl⟩;have fw:=zC eM;unfold thV;rw[<-eM];have q1:ct.size=5:=by rw[eM];rfl
 clear eM h;go_enter Tryz.func78,Tryz.ntmps78;go_upto_region 1 with fail;generalize hw0:World.alloc w _=w0;have k0:Below w.heap.size w w0:=by rw[<-hw0];exact B9.alloc L9 _
 have x0:TV w0 w.heap.size t:=by rw[<-hw0,zA fw];exact TV.new w t
 clear hw0
 have ee:aD w0 base (.slice ar rs.length cr) rs:=⟨zG (zA H).rules.row k0 (λ g e=>((zA H).rules.row.lt g e).2),λ r hr=>by
  have:=(zA H).rules.each r hr
  exact⟨zG this.hd k0 (λ g e=>(this.hd.lt g e).2),this.bo.below k0,this.eq⟩⟩
 have tt:=zC (zpd w0 base a c bs ((zA H).b.below k0) ar cr rs ee (λ r hr=>((zA H).dh r hr).l3));have cq:=zC k0;have mo:=zC x0;clear k0 x0 ee;go_upto_region 2 with (go_at_call 121;refine (zA tt).mono ?_;rintro en w1 ⟨Fv,aT⟩;have cR:=zC aT;clear aT;rcases Fv.shape with⟨hF,rfl⟩ | ⟨k,aJ,an,cn,hF,dB,rfl⟩ <;> (have HF:=zC hF;clear hF Fv))
 ·go_wp2_with fail;go_ret;exact⟨((zA cq).trans ((zA cR).mono (zA cq).size)).alloc (Nat.le_trans (zA cq).size (zA cR).size) _,.inr ⟨λ m k st _ h=>(by obtain⟨ns,h1,_⟩:=h;rw[zA HF] at h1;cases h1),rfl⟩⟩
 ·obtain⟨Cy,FA⟩:=z6c (zA HF);generalize kj:World.alloc w1 _=w2;have k2:Below w1.heap.size w1 w2:=by rw[<-kj];exact B9.alloc L9 _
  have y2:w2.heap[w1.heap.size]?=some (.cells #[.int .i64 (k:Nat),.slice an aJ.length cn] 93 (0,0)):=by rw[<-kj];exact heap_alloc_new w1 _
  clear kj;have cD:Below w.heap.size w w2:=(zA cq).trans (((zA cR).trans (k2.mono (zA cR).size)).mono (zA cq).size);have c0:=(zB y2 0).1;have c1:=(zB y2 1).1;simp only[List.getElem?_toArray,List.getElem?_cons_zero,List.getElem?_cons_succ] at c0 c1
  have fc:aD w2 base (.slice ar rs.length cr) rs:=⟨zG (zA H).rules.row cD (λ g e=>((zA H).rules.row.lt g e).2),λ r hr=>by
   have:=(zA H).rules.each r hr
   exact⟨zG this.hd cD (λ g e=>(this.hd.lt g e).2),this.bo.below cD,this.eq⟩⟩
  have rQ:=zC (z3d w2 base tb n k ps Sp rs ar cr aJ an cn ⟨fc,(zA H).dh,(dB.below k2).low (Nat.zero_le _),by simpa using Cy,λ x hx=>FA (dX x) (List.mem_map_of_mem hx),(zA H).DP.block (cD.block tb fZ),(zA H).str⟩);have mh:TV w2 w.heap.size t:=((zA mo).below (zA cR)).below k2;have oF:=zC mh;have jt:=zC cD;have qc:=zC y2;clear dB FA cD fc mh y2 k2 cq mo;go_upto_region 5 with (go_at_call 122;refine (zA rQ).mono ?_;rintro en w3 ⟨cE,m,eM,h3⟩;have gh:=zC cE;have fw:=zC eM;clear cE eM;rcases h3 with⟨st,mb,hq,rfl,ey⟩ | ⟨cP,rfl⟩)
  ·have uz:Below w.heap.size w w3:=(zA jt).trans ((zA gh).mono (zA jt).size);have qp:=((zA oF).below (zA gh)).load;have Dx:=((zA gh).block _ (Array.getElem?_eq_some_iff.1 (zA qc)).1).trans (zA qc);have lQ:=zC uz;have Fa:gI rs Sp m bs k st:=⟨aJ.map dX,zA HF,hq⟩;have nZ:=zC Fa;have ki:=(zA H).DP.block (uz.block tb fZ);have du:t.p.size<=maxLen:=by
    have:=nL.pd;unfold maxLen;omega
   have t0:w3.cell? ⟨w.heap.size,0,none⟩=some (.string t.p):=(zB ((zA oF).below (zA gh)) 0).1;have d0:=(zB Dx 0).1;simp only[List.getElem?_toArray,List.getElem?_cons_zero] at d0;have LQ:w1.heap.size<w3.heap.size:=(Array.getElem?_eq_some_iff.1 Dx).1;have Ki:w.heap.size<w3.heap.size:=((zA oF).below (zA gh)).lt;clear uz hq Fa Dx c0 c1
   cases fN:z7 (j6 st) t with
   | some j=>
    have HE:=zC (show zf6 ps Sp k (st.map (·.t)) t=1 by
     unfold zf6
     rw[if_pos (by rw[<-jE];exact xB.1 (by rw[fN];rfl))])
    have iJ:=zC fN;clear fN;go_wp2_with (at_lookup;refine zbn _ rfl _ _ 82 rfl Tryz.underlying82 mb (j6 st) rfl ey t rfl nL _ rfl true (by rw[zA iJ];rfl) ?_);go_ret;exact⟨zA lQ,.inl ⟨m,k,st,zA fw,zA nZ,by rw[zA HE];rfl⟩⟩
   | none=>
    have po:t∉st.map (·.t):=λ h5=>by
     rw[<-jE] at h5;have:=xB.2 h5;rw[fN] at this
     cases this
    have iJ:=zC fN;clear fN
    cases hn:zZ ps t.p with
    | none=>
     have HE:=zC (show zf6 ps Sp k (st.map (·.t)) t=2 by
      unfold zf6
      rw[if_neg po,if_neg (λ h=>by rw[hn] at h;cases h.1)])
     have hu:(stV ps Sp t.p).getD (.agg #[.string { data:=#[] },.int .i64 0,.int .i64 0])=.agg #[.string { data:=#[] },.int .i64 0,.int .i64 0]:=(by unfold stV;rw[hn];rfl);have hc:(stV ps Sp t.p).isSome=false:=(by unfold stV;rw[hn];rfl);go_wp2_with (first | (at_lookup;refine zbn _ rfl _ _ 82 rfl Tryz.underlying82 mb (j6 st) rfl ey t rfl nL _ rfl false (by rw[zA iJ];rfl) ?_) | (at_lookup;refine vE _ rfl _ _ 73 rfl 9 185 Tryz.underlying9 Tryz.underlying73 (Tryz.zeroValue185 _) tb n (stV ps Sp) rfl ki t.p rfl du _ hu _ hc ?_));go_ret;exact⟨(zA lQ).alloc (zA lQ).size _,.inl ⟨m,k,st,zA fw,zA nZ,by rw[zA HE];rfl⟩⟩
    | some q=>
     have hu:(stV ps Sp t.p).getD (.agg #[.string { data:=#[] },.int .i64 0,.int .i64 0])=.agg #[.string t.p,.int .i64 (Sp t.p),.int .i64 q]:=(by unfold stV;rw[hn];rfl);have hc:(stV ps Sp t.p).isSome=true:=by unfold stV;rw[hn];rfl
     by_cases hS:Sp t.p<k
     ·have cK:decide ((Sp t.p:Int)<k)=true:=by simp;omega
      have HE:=zC (show zf6 ps Sp k (st.map (·.t)) t=2 by
       unfold zf6
       rw[if_neg po,if_neg (λ h=>by omega)])
      go_wp2_with (first | (at_lookup;refine zbn _ rfl _ _ 82 rfl Tryz.underlying82 mb (j6 st) rfl ey t rfl nL _ rfl false (by rw[zA iJ];rfl) ?_) | (at_lookup;refine vE _ rfl _ _ 73 rfl 9 185 Tryz.underlying9 Tryz.underlying73 (Tryz.zeroValue185 _) tb n (stV ps Sp) rfl ki t.p rfl du _ hu _ hc ?_));go_ret;exact⟨(zA lQ).alloc (zA lQ).size _,.inl ⟨m,k,st,zA fw,zA nZ,by rw[zA HE];rfl⟩⟩
     ·have cK:decide ((Sp t.p:Int)<k)=false:=by simp;omega
      have HE:=zC (show zf6 ps Sp k (st.map (·.t)) t=3 by
       unfold zf6
       rw[if_neg po,if_pos ⟨by rw[hn];rfl,by omega⟩])
      go_wp2_with (first | (at_lookup;refine zbn _ rfl _ _ 82 rfl Tryz.underlying82 mb (j6 st) rfl ey t rfl nL _ rfl false (by rw[zA iJ];rfl) ?_) | (at_lookup;refine vE _ rfl _ _ 73 rfl 9 185 Tryz.underlying9 Tryz.underlying73 (Tryz.zeroValue185 _) tb n (stV ps Sp) rfl ki t.p rfl du _ hu _ hc ?_));go_ret;exact⟨(zA lQ).alloc (zA lQ).size _,.inl ⟨m,k,st,zA fw,zA nZ,by rw[zA HE];rfl⟩⟩
  ·go_wp2_with fail;go_ret;refine⟨(zA jt).trans ((zA gh).mono (zA jt).size),.inr ⟨λ m' k' st lY h=>?_,rfl⟩⟩;obtain⟨ns,h1,h2,h3⟩:=h;rw[zA HF] at h1;obtain⟨rfl,rfl⟩:k=k'/\aJ.map dX=ns:=by simpa using h1
   have e:=zfo (zA fw) lY;subst e;exact cP st ⟨h2,h3⟩
end
section
open Go.Sort
variable {q:B8} {ps:P9}
theorem zod (h:(zw9 ps q&&zpe (zat q))=true):tQ (thA (zat q))/\(thA (zat q)).2.length<=4:=by
 have o0:zm4 q=true:=by
  unfold zw9 at h;simp only[Bool.and_eq_true] at h;exact h.1.1
 have hw:zn9 (pa (zat q)).p (pa (zat q)).ts:=z2k (q:=q) (by rw[z2j,if_pos o0]);refine⟨⟨hw.pd,λ x hx=>?_⟩,by have:=hw.ft;simpa[pa,thA] using this⟩;obtain⟨t,ht,rfl⟩:=List.mem_map.1 hx;exact hw.ts (aR t) (List.mem_map.2 ⟨t,ht,rfl⟩)
theorem yde {t:Th}(h:tQ t)(hf:t.2.length<=4):zbj t:=
 ⟨by have:=h.pd.le;show t.1.size<=_;omega,hf,λ x hx=>by have:=(h.ts x hx).le;omega,λ x hx=>(h.ts x hx).ne⟩
theorem zvf (t:Th)(h:vM ps q=some t):zbj t:=by
 rw[zwy] at h
 split at h
 ·rename_i bX;obtain rfl:=Option.some.inj h;exact yde (zod bX).1 (zod bX).2
 ·cases h
end
section
open Go.RowKit Go.Maps
attribute [local go_sem ↓] vU xY xX xW
attribute [local go_sem] vD vC
variable {rs:List PR}
theorem zyy {w w':W8}{base:Nat}{rv:Value}(h:aD w base rv rs)(k:Below w.heap.size w w'):aD w' base rv rs:=
 ⟨zG h.row k (λ g e=>(h.row.lt g e).2),λ r hr=>⟨zG (h.each r hr).hd k (λ g e=>((h.each r hr).hd.lt g e).2),(h.each r hr).bo.below k,(h.each r hr).eq⟩⟩
def Mn (ps:P9)(Sp:B8->Nat)(rs:List PR)(bs:List Nat)(t:Th)(e:Ending):Prop:=
 (∃ m k st,jS ps Sp m/\gI rs Sp m bs k st/\e=.returned (.int .i64 (zf6 ps Sp k (st.map (·.t)) t:Nat)))\/((∀ m k st,jS ps Sp m->¬ gI rs Sp m bs k st)/\e=.returned (.int .i64 (3:Nat)))
def zz4 (w:W8)(ps:P9)(rs:List PR)(s:B8)(bs:List Nat)(e:Ending)(w':W8):Prop:=
 Below w.heap.size w w'/\((vM ps s=none/\e=.returned (.int .i64 (3:Nat)))\/∃ t Sp,vM ps s=some t/\qH (rs.map (·.R)) Sp/\ztd (rs.map (·.R)) Sp/\Mn ps Sp rs bs t e)
theorem Mn.int {ps:P9}{Sp:B8->Nat}{bs:List Nat}{t:Th}{e:Ending}(h:Mn ps Sp rs bs t e):∃ n:Nat,e=.returned (.int .i64 (n:Nat)):=by
 rcases h with⟨_,_,_,_,_,rfl⟩ | ⟨_,rfl⟩
 ·exact⟨_,rfl⟩
 ·exact⟨_,rfl⟩
theorem z3p (w:W8)(base b:Nat)(rs:List PR)(ps:P9)(s:B8)(hs:s.size<=2000000)(h:zm3 w base b rs)(iG:rs.length<=30)(cE:∀ r∈rs,r.bs.length<=3)(eN:∀ r∈rs,r.R.pd.size<=800)(kX:∀ r∈rs,∀ x∈r.bs,x.1.pd.size<=800)(kc:qT ((rs.map (·.R)).flatMap xV) [])(gj:j5 ((rs.map (·.R)).flatMap xV) []=ps)(dP:ps.length<=1000)(ak:∀ r∈rs,(∃ n,zZ ps r.R.pd=some n)/\∀ x∈r.bs,∃ n,zZ ps x.1.pd=some n)(f0:B8->Nat)(bR:qH (rs.map (·.R)) f0)(jd:∀ k,f0 k<=1000)(hg:∀ r∈rs,jZ ps r)(oQ:∀ t,vM ps s=some t->zbj t)(ba:O8)(bc:Nat)(bs:List Nat)(cU:iP w ba bc bs):
  Calls Tryz.prog 47 #[.pointer (some ⟨b,0,none⟩),.string s,.slice ba bs.length bc] w (zz4 w ps rs s bs):=by
 obtain⟨a,c,hb,bO,hr⟩:=h;have ja:b<w.heap.size:=(Array.getElem?_eq_some_iff.1 hb).1;have HR:=zC hr;have HG:=zC hg;have te:=zC oQ;have wH:=zC bR;have tt:=zC jd;have rN:=zC (z2e w base a c rs ps hr iG cE eN kX kc gj dP ak f0 bR jd);have HB:=zC hb;have ow:=zC cU;obtain⟨x0,_⟩:=zB hb 0;clear hr cE eN kX kc gj dP ak bR jd hg oQ hb cU;go_enter Tryz.func47,Tryz.ntmps47;go_wp2_with fail;refine (zb4 _ b _ a rs.length c rfl x0).mono ?_;rintro e w2 ⟨rfl,hw⟩;have hw:=hw.symm;subst hw;go_wp2_with fail;refine (zA rN).mono ?_;clear rN;rintro e w2 ⟨rfl,bZ,aU,S,n,hm,hn,fD,aX⟩;have xg:=zC (show ∀ k,S k<=1000000 from λ k=>by have:=aX f0 (zA wH) k;have:=zA tt k;omega);have HV:=zC fD;have iJ:=zC aX;have HM:=zC hm;have ep:=zC aU;clear fD aX hm aU x0;go_wp2_with fail;refine (zh1 w2 s _ n ps S (zA HM) hs).mono ?_;rintro e w3 ⟨cE,rfl⟩;have pO:=cE.size;have iz:Below w.heap.size w w3:=(zA ep).trans (cE.mono (zA ep).size);have ey:=(zA HM).block (cE.block _ bZ)
 cases hP:vM ps s with
 | none=>
  have HP:=zC hP;have gh:=zC iz;clear hP iz ey cE;rw[Option.getD_none,Option.isSome_none];go_wp2_with fail;go_ret;exact⟨(zA gh).alloc (zA gh).size _,.inl ⟨zA HP,rfl⟩⟩
 | some t=>
  have bX:=zA te t hP;have HP:=zC hP;have k4:Below w.heap.size w (w3.alloc (.cells (zJ t).toArray 88)):=iz.alloc iz.size _;have cW:=(k4.block b ja).trans (zA HB);have jr:=ey.block (Below.heap_alloc w3 (.cells (zJ t).toArray 88) w.heap.size (by omega));have t4:TV (w3.alloc (.cells (zJ t).toArray 88)) w3.heap.size t:=heap_alloc_new _ _;rw[Option.getD_some,Option.isSome_some];clear hP iz ey cE;go_upto_region 5 with fail;generalize hw4:(w3.alloc (.cells (zJ t).toArray 88))=w4 at *;have Ae:=zC (λ (W:W8) (hW:Below w4.heap.size w4 W)=>z3q W base w.heap.size n ps S rs a c ba bc bs t ⟨zyy (zA HR) (k4.trans (hW.mono k4.size)),zA HG,jr.block (hW.block _ jr.lt),λ k _=>zA xg k,(zA ow).below (k4.trans (hW.mono k4.size)),bX⟩);have HX:=zC (λ (W:W8) (hW:Below w4.heap.size w4 W)=>(show W.cell? ⟨b,0,none⟩=some (.slice a rs.length c)/\(zej (.pointer (some ⟨w3.heap.size,0,none⟩))).run Tryz.prog W=.ok (thV t) W from ⟨(hW.cell (p:=⟨b,0,none⟩) (Array.getElem?_eq_some_iff.1 cW).1).trans (zB cW 0).1,(t4.below hW).load⟩));have oz:=zC k4;clear hw4 k4 cW jr t4
  go_region_held3 (λ w'=>w'.cell? ⟨b,0,none⟩=some (.slice a rs.length c)/\(zej (.pointer (some ⟨w3.heap.size,0,none⟩))).run Tryz.prog w'=.ok (thV t) w') (first | exact zA HX _ bY | exact zA HX _ B9.drew) ((first | (go_at_call 36;refine (zb4 _ b _ a rs.length c rfl (zA HX _ B9.drew).1).mono ?_;rintro e w5 ⟨rfl,hw⟩;have hw:=hw.symm;subst hw) | (go_at_call 78;refine (zA Ae _ (by exact B9.drew)).mono ?_;rintro e w5 ⟨eO,h5⟩;have bY:Below w4.heap.size w4 w5:=zL eO;have h6:Mn ps S rs bs t e:=h5;obtain⟨v,rfl⟩:=h6.int;have HE:=zC h6;clear h5 h6)))
  all_goals
   go_wp2_with fail;go_ret;exact⟨(zA oz).trans (bY.mono (zA oz).size),.inr ⟨t,S,zA HP,zA HV,zA iJ,zA HE⟩⟩
end
section
open Go.RowKit Go.Maps
def MI (ps:P9)(rs:List PR)(q:B8)(bs:List Nat)(e:Ending):Prop:=
 (vM ps q=none/\e=.returned (.int .i64 (3:Nat)))\/∃ t Sp,vM ps q=some t/\qH (rs.map (·.R)) Sp/\ztd (rs.map (·.R)) Sp/\Mn ps Sp rs bs t e
def z49 (s q:B8)(bs:List Nat)(e:Ending):Prop:=
 ((xJ s).1=false/\e=.returned (.int .i64 (3:Nat)))\/((xJ s).1=true/\∃ rp:List PR,rp.map (·.R)=(zO s).2.2.1/\(∀ r∈rp,r.bs.map (·.1)=r.R.body)/\MI (zH s).2 rp q bs e)
theorem MI.int {ps:P9}{rs:List PR}{q:B8}{bs:List Nat}{e:Ending}(h:MI ps rs q bs e):∃ n:Nat,e=.returned (.int .i64 (n:Nat)):=by
 rcases h with⟨_,rfl⟩ | ⟨_,_,_,_,_,h⟩
 ·exact⟨_,rfl⟩
 ·exact h.int
theorem zjs (s:B8):(xJ s).1=true↔(xJ s).2.1=0:=by
 unfold xJ
 split
 ·simp
 ·split
  ·simp
  ·split
   ·simp
   ·split
    ·simp
    ·split <;> simp
theorem ziv (w:W8)(s q:B8)(hs:s.size<=maxLen)(hq:q.size<=2000000)(ba:O8)(bc:Nat)(bs:List Nat)(cU:iP w ba bc bs):
  Calls Tryz.prog 31 #[.string s,.string q,.slice ba bs.length bc] w λ e w'=>z49 s q bs e/\Below w.heap.size w w':=by
 have hL:=zr8 w s hs;rw[zt0] at hL;have HL:=zC hL;have ow:=zC cU;clear hL cU
 cases bX:(xJ s).1 with
 | false=>
  have iS:=zC bX;have yt:(xJ s).2.1≠0:=by
   have:=zjs s;rw[bX] at this;simpa using this
  clear bX;go_enter Tryz.func31,Tryz.ntmps31;go_wp2_with (go_at_call 30;refine (zA HL).mono ?_;rintro e w1 ⟨aT,cP,-⟩;have he:=cP (zA iS);subst he;have cR:=zC aT;clear aT cP);go_ret;exact⟨.inl ⟨zA iS,rfl⟩,zA cR⟩
 | true=>
  have iS:=zC bX;have yt:(xJ s).2.1=0:=by
   have:=zjs s;rw[bX] at this;simpa using this
  have Ae:=zC (λ (W:W8) (b:Nat) (rs:List PR) (hW:Below w.heap.size w W) (hp:zm3 W w.heap.size b rs) (hr:rs.map (·.R)=(zO s).2.2.1)=>(show Calls Tryz.prog 47 #[.pointer (some ⟨b,0,none⟩),.string q,.slice ba bs.length bc] W (zz4 W (zH s).2 rs q bs)/\(∀ r∈rs,r.bs.map (·.1)=r.R.body) from by
   have hg:=zdo bX;obtain⟨f0,bR,jd⟩:=hg.some_;have ak:∀ r∈rs,r.R∈(zO s).2.2.1:=λ r dH=>by rw[<-hr];exact List.mem_map_of_mem dH
   have eL:∀ r∈rs,r.bs.map (·.1)=r.R.body:=λ r dH=>by
    obtain⟨a,c,_,_,eI⟩:=hp;exact (eI.each r dH).eq
   have oi:∀ r∈rs,∀ x∈r.bs,x.1∈r.R.body:=λ r dH x hx=>by rw[<-eL r dH];exact List.mem_map_of_mem hx
   have hl:rs.length<=30:=(by have:=hg.len;rw[<-hr,List.length_map] at this;exact this);have hR:=zh3 bX hr eL
   exact⟨z3p W w.heap.size b rs (zH s).2 q hq hp hl (λ r dH=>by have:=hg.body r.R (ak r dH);rw[<-eL r dH,List.length_map] at this;exact this) (λ r dH=>hg.pd r.R (ak r dH)) (λ r dH x hx=>hg.JY r.R (ak r dH) x.1 (oi r dH x hx)) (by rw[hr];exact hg.agree) (by rw[hr];exact hg.met) (by have:=hg.ft;omega) (λ r dH=>⟨(hg.named r.R (ak r dH)).1,λ x hx=>(hg.named r.R (ak r dH)).2 x.1 (oi r dH x hx)⟩) f0 (by rw[hr];exact bR) jd hR.dh zvf ba bc bs ((zA ow).below hW),eL⟩))
  clear bX;go_enter Tryz.func31,Tryz.ntmps31;go_upto_region 2 with (go_at_call 30;refine (zA HL).mono ?_;rintro e w1 ⟨aT,-,eJ⟩;obtain⟨b,rs,rfl,hp,hr⟩:=eJ (zA iS);have cR:=zC aT;have ir:=zC (And.intro hp hr);clear aT eJ hp hr);obtain⟨sg,eL⟩:=zA Ae w1 b rs (zA cR) (zA ir).1 (zA ir).2;have iQ:=zC sg;have rG:=zC eL;clear sg eL Ae HL;go_wp2_with (go_at_call 47;refine (zA iQ).mono ?_;rintro e w2 ⟨aU,h2⟩;have h3:MI (zH s).2 rs q bs e:=h2;obtain⟨v,rfl⟩:=h3.int;have HE:=zC h3;have ep:=zC aU;clear aU h2 h3);go_ret;exact⟨.inr ⟨zA iS,rs,(zA ir).2,zA rG,zA HE⟩,(zA cR).trans ((zA ep).mono (zA cR).size)⟩
end
section
theorem gI.uniq {rp:List PR}{Sp:B8->Nat}{m:Nat}{b:List Nat}{k k':Nat}{st fF:List yL}(h:gI rp Sp m b k st)(h':gI rp Sp m b k' fF):k=k'/\st=fF:=by
 obtain⟨ns,h1,_,h2,_⟩:=h;obtain⟨ns',BJ,_,rX,_⟩:=h';rw[h1] at BJ;injection (Option.some.inj BJ) with e1 e2
 subst e2;rw[h2] at rX;exact⟨e1,Option.some.inj rX⟩
end
end Go.Proofs.YtldkpahaocjdpaaGreat
