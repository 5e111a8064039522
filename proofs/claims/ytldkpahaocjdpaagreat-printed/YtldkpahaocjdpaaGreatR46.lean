/-
  Shows: what the bytes of a witness show of a thing.
-/
import Derived.Test.YtldkpahaocjdpaaGreatR44
import Derived.Sort.Walk0
import Derived.Test.YtldkpahaocjdpaaGreatR45
set_option maxHeartbeats 16000000
set_option maxRecDepth 1000000
namespace Go.Proofs.YtldkpahaocjdpaaGreat
section
open Go.RowKit Go.Maps
attribute [local go_sem ↓] to_tLoad to_tStore to_tAlloc thV_cells
theorem count_uniq {ps:P9}{Sp:B8->Nat}{m m':Nat}(h:IsCount ps Sp m)(h':IsCount ps Sp m'):m=m':=by
 rcases h.2 with h0 | ⟨k,hk,e⟩
 ·rcases h'.2 with qN | ⟨k',sl,e'⟩
  ·omega
  ·have:=h.1 k' sl;omega
 ·have h1:=h'.1 k hk;rcases h'.2 with qN | ⟨k',sl,e'⟩
  ·omega
  ·have h2:=h.1 k' sl;omega
theorem rdP_ix {pos:List Nat}:∀ (n:Nat) (rest:List Nat) (l:List (Nat × List Nat)),rdP pos n rest=some l->l.length=n/\∀ x∈l,pos[x.1]?=some x.2.length
 | 0,[],l,h=>by obtain rfl:=Option.some.inj h;simp
 | 0,_::_,l,h=>by cases h
 | _+1,[],l,h=>by cases h
 | n+1,r::q,l,h=>by
  rw[rdP] at h
  split at h
  ·cases h
  ·rename_i m hm
   split at h
   ·cases h
   ·rename_i hq
    split at h
    ·cases h
    ·rename_i l' mE;obtain rfl:=Option.some.inj h;obtain⟨h1,h2⟩:=rdP_ix n _ l' mE;refine⟨by simp[h1],λ x hx=>?_⟩;rcases List.mem_cons.1 hx with rfl | hx
     ·simp only[List.length_take];rw[hm,Nat.min_eq_left (by omega)]
     ·exact h2 x hx
theorem fromP_ix {rs:List PR}{bs:List Nat}{k:Nat}{ns:List (Nat × List Nat)}(h:fromP (posL rs) bs=some (k,ns)):ns.length<=50/\∀ x∈ns,∃ hx:x.1<rs.length,x.2.length=(posOf rs[x.1].bs).length:=by
 match bs,h with
 | k'::n::rest,h=>
  unfold fromP at h;simp only at h
  split at h
  ·cases h
  ·rename_i hn;obtain⟨l,h1,h2⟩:=Option.map_eq_some_iff.1 h;injection h2 with _ h2
   subst h2;obtain⟨q1,q2⟩:=rdP_ix n rest l h1;refine⟨by omega,λ x hx=>?_⟩;have:=q2 x hx;unfold posL at this;rw[List.getElem?_map] at this
   cases hr:rs[x.1]? with
   | none=>rw[hr] at this;cases this
   | some R=>
    rw[hr] at this;obtain⟨h5,h6⟩:=List.getElem?_eq_some_iff.1 hr;refine⟨h5,?_⟩;rw[h6];exact (Option.some.inj this).symm
noncomputable def showV (ps:P9)(Sp:B8->Nat)(k:Nat)(T:List Th)(t:Th):Nat:=open Classical in if t∈T then 1 else if (numOf ps t.p).isSome=true/\k<=Sp t.p then 3 else 2
def ShowPost (w:W8)(ps:P9)(Sp:B8->Nat)(rs:List PR)(bs:List Nat)(t:Th)(e:Ending)(w':W8):Prop:=
 Below w.heap.size w w'/\((∃ m k st,IsCount ps Sp m/\ew rs Sp m bs k st/\e=.returned (.int .i64 (showV ps Sp k (st.map (·.t)) t:Nat)))\/((∀ m k st,IsCount ps Sp m->¬ ew rs Sp m bs k st)/\e=.returned (.int .i64 (3:Nat))))
theorem ko.shape {w w':W8}{F:Option (Nat × List (Nat × List Nat))}{e:Ending}(h:ko w w' F e):(F=none/\e=.returned (.tuple #[.agg #[.int .i64 0,.slice none 0 0],.bool false]))\/∃ (k:Nat) (aJ:List ND) (a:O8) (c:Nat),F=some (k,aJ.map dX)/\bN w' w.heap.size (.slice a aJ.length c) aJ/\e=.returned (.tuple #[.agg #[.int .i64 (k:Nat),.slice a aJ.length c],.bool true]):=by
 cases h with
 | no=>exact .inl ⟨rfl,rfl⟩
 | yes h=>exact .inr ⟨_,_,_,_,rfl,h,rfl⟩
structure ShowArg (w:W8)(base tb n:Nat)(ps:P9)(Sp:B8->Nat)(rs:List PR)(rv:Value)(a:O8)(c:Nat)(bs:List Nat)(t:Th):Prop where
 rules:bR w base rv rs
 dh:∀ r∈rs,bF ps r
 DP:SMap Tryz.prog 9 w tb n (stV ps Sp)
 str:∀ k,(numOf ps k).isSome=true->Sp k<=1000000
 b:iP w a c bs
 th:ThOk t
theorem shows_any (w:W8)(base tb n:Nat)(ps:P9)(Sp:B8->Nat)(rs:List PR)(ar:O8)(cr:Nat)(a:O8)(c:Nat)(bs:List Nat)(t:Th)(h:ShowArg w base tb n ps Sp rs (.slice ar rs.length cr) a c bs t):
  Calls Tryz.prog 78 #[.slice a bs.length c,.slice ar rs.length cr,.map (some tb),thV t] w (ShowPost w ps Sp rs bs t):=by
 have H:=hide h;have fZ:=h.DP.lt;have nL:=h.th;obtain⟨ct,eM⟩:∃ ct,ct=(aq t).toArray:=⟨_,rfl⟩;have fw:=hide eM;unfold thV;rw[<-eM];have q1:ct.size=5:=by rw[eM];rfl
 clear eM h;go_enter Tryz.func78,Tryz.ntmps78;go_upto_region 1 with fail;generalize hw0:World.alloc w _=w0;have k0:Below w.heap.size w w0:=by rw[<-hw0];exact B9.alloc L9 _
 have x0:TV w0 w.heap.size t:=by rw[<-hw0,ad fw];exact TV.new w t
 clear hw0
 have ee:bR w0 base (.slice ar rs.length cr) rs:=⟨own_below (ad H).rules.row k0 (λ g e=>((ad H).rules.row.lt g e).2),λ r hr=>by
  have:=(ad H).rules.each r hr
  exact⟨own_below this.hd k0 (λ g e=>(this.hd.lt g e).2),this.bo.below k0,this.eq⟩⟩
 have tt:=hide (frombytes_any w0 base a c bs ((ad H).b.below k0) ar cr rs ee (λ r hr=>((ad H).dh r hr).l3));have cq:=hide k0;have mo:=hide x0;clear k0 x0 ee;go_upto_region 2 with (go_at_call 121;refine (ad tt).mono ?_;rintro en w1 ⟨Fv,aT⟩;have cR:=hide aT;clear aT;rcases Fv.shape with⟨hF,rfl⟩ | ⟨k,aJ,an,cn,hF,dB,rfl⟩ <;> (have HF:=hide hF;clear hF Fv))
 ·go_wp2_with fail;go_ret;exact⟨((ad cq).trans ((ad cR).mono (ad cq).size)).alloc (Nat.le_trans (ad cq).size (ad cR).size) _,.inr ⟨λ m k st _ h=>(by obtain⟨ns,h1,_⟩:=h;rw[ad HF] at h1;cases h1),rfl⟩⟩
 ·obtain⟨Cy,FA⟩:=fromP_ix (ad HF);generalize kj:World.alloc w1 _=w2;have k2:Below w1.heap.size w1 w2:=by rw[<-kj];exact B9.alloc L9 _
  have y2:w2.heap[w1.heap.size]?=some (.cells #[.int .i64 (k:Nat),.slice an aJ.length cn] 93 (0,0)):=by rw[<-kj];exact heap_alloc_new w1 _
  clear kj;have jU:Below w.heap.size w w2:=(ad cq).trans (((ad cR).trans (k2.mono (ad cR).size)).mono (ad cq).size);have c0:=(block_cells y2 0).1;have c1:=(block_cells y2 1).1;simp only[List.getElem?_toArray,List.getElem?_cons_zero,List.getElem?_cons_succ] at c0 c1
  have fc:bR w2 base (.slice ar rs.length cr) rs:=⟨own_below (ad H).rules.row jU (λ g e=>((ad H).rules.row.lt g e).2),λ r hr=>by
   have:=(ad H).rules.each r hr
   exact⟨own_below this.hd jU (λ g e=>(this.hd.lt g e).2),this.bo.below jU,this.eq⟩⟩
  have rQ:=hide (right_any w2 base tb n k ps Sp rs ar cr aJ an cn ⟨fc,(ad H).dh,(dB.below k2).low (Nat.zero_le _),by simpa using Cy,λ x hx=>FA (dX x) (List.mem_map_of_mem hx),(ad H).DP.block (jU.block tb fZ),(ad H).str⟩);have mh:TV w2 w.heap.size t:=((ad mo).below (ad cR)).below k2;have oF:=hide mh;have jt:=hide jU;have qc:=hide y2;clear dB FA jU fc mh y2 k2 cq mo;go_upto_region 5 with (go_at_call 122;refine (ad rQ).mono ?_;rintro en w3 ⟨cE,m,eM,h3⟩;have gh:=hide cE;have fw:=hide eM;clear cE eM;rcases h3 with⟨st,mb,hq,rfl,ey⟩ | ⟨cP,rfl⟩)
  ·have uz:Below w.heap.size w w3:=(ad jt).trans ((ad gh).mono (ad jt).size);have qp:=((ad oF).below (ad gh)).load;have Dx:=((ad gh).block _ (Array.getElem?_eq_some_iff.1 (ad qc)).1).trans (ad qc);have lQ:=hide uz;have Fa:ew rs Sp m bs k st:=⟨aJ.map dX,ad HF,hq⟩;have nZ:=hide Fa;have ki:=(ad H).DP.block (uz.block tb fZ);have du:t.p.size<=maxLen:=by
    have:=nL.pd;unfold maxLen;omega
   have t0:w3.cell? ⟨w.heap.size,0,none⟩=some (.string t.p):=(block_cells ((ad oF).below (ad gh)) 0).1;have d0:=(block_cells Dx 0).1;simp only[List.getElem?_toArray,List.getElem?_cons_zero] at d0;have yU:w1.heap.size<w3.heap.size:=(Array.getElem?_eq_some_iff.1 Dx).1;have Ki:w.heap.size<w3.heap.size:=((ad oF).below (ad gh)).lt;clear uz hq Fa Dx c0 c1
   cases fN:ay (saidK st) t with
   | some j=>
    have HE:=hide (show showV ps Sp k (st.map (·.t)) t=1 by
     unfold showV
     rw[if_pos (by rw[<-saidK_keys];exact look_keys.1 (by rw[fN];rfl))])
    have iJ:=hide fN;clear fN;go_wp2_with (at_lookup;refine wp_hlook _ rfl _ _ 82 rfl Tryz.underlying82 mb (saidK st) rfl ey t rfl nL _ rfl true (by rw[ad iJ];rfl) ?_);go_ret;exact⟨ad lQ,.inl ⟨m,k,st,ad fw,ad nZ,by rw[ad HE];rfl⟩⟩
   | none=>
    have po:t∉st.map (·.t):=λ h5=>by
     rw[<-saidK_keys] at h5;have:=look_keys.2 h5;rw[fN] at this
     cases this
    have iJ:=hide fN;clear fN
    cases hn:numOf ps t.p with
    | none=>
     have HE:=hide (show showV ps Sp k (st.map (·.t)) t=2 by
      unfold showV
      rw[if_neg po,if_neg (λ h=>by rw[hn] at h;cases h.1)])
     have hu:(stV ps Sp t.p).getD (.agg #[.string { data:=#[] },.int .i64 0,.int .i64 0])=.agg #[.string { data:=#[] },.int .i64 0,.int .i64 0]:=(by unfold stV;rw[hn];rfl);have hc:(stV ps Sp t.p).isSome=false:=(by unfold stV;rw[hn];rfl);go_wp2_with (first | (at_lookup;refine wp_hlook _ rfl _ _ 82 rfl Tryz.underlying82 mb (saidK st) rfl ey t rfl nL _ rfl false (by rw[ad iJ];rfl) ?_) | (at_lookup;refine wp_look_ok _ rfl _ _ 73 rfl 9 185 Tryz.underlying9 Tryz.underlying73 (Tryz.zeroValue185 _) tb n (stV ps Sp) rfl ki t.p rfl du _ hu _ hc ?_));go_ret;exact⟨(ad lQ).alloc (ad lQ).size _,.inl ⟨m,k,st,ad fw,ad nZ,by rw[ad HE];rfl⟩⟩
    | some q=>
     have hu:(stV ps Sp t.p).getD (.agg #[.string { data:=#[] },.int .i64 0,.int .i64 0])=.agg #[.string t.p,.int .i64 (Sp t.p),.int .i64 q]:=(by unfold stV;rw[hn];rfl);have hc:(stV ps Sp t.p).isSome=true:=by unfold stV;rw[hn];rfl
     by_cases hS:Sp t.p<k
     ·have j2:decide ((Sp t.p:Int)<k)=true:=by simp;omega
      have HE:=hide (show showV ps Sp k (st.map (·.t)) t=2 by
       unfold showV
       rw[if_neg po,if_neg (λ h=>by omega)])
      go_wp2_with (first | (at_lookup;refine wp_hlook _ rfl _ _ 82 rfl Tryz.underlying82 mb (saidK st) rfl ey t rfl nL _ rfl false (by rw[ad iJ];rfl) ?_) | (at_lookup;refine wp_look_ok _ rfl _ _ 73 rfl 9 185 Tryz.underlying9 Tryz.underlying73 (Tryz.zeroValue185 _) tb n (stV ps Sp) rfl ki t.p rfl du _ hu _ hc ?_));go_ret;exact⟨(ad lQ).alloc (ad lQ).size _,.inl ⟨m,k,st,ad fw,ad nZ,by rw[ad HE];rfl⟩⟩
     ·have j2:decide ((Sp t.p:Int)<k)=false:=by simp;omega
      have HE:=hide (show showV ps Sp k (st.map (·.t)) t=3 by
       unfold showV
       rw[if_neg po,if_pos ⟨by rw[hn];rfl,by omega⟩])
      go_wp2_with (first | (at_lookup;refine wp_hlook _ rfl _ _ 82 rfl Tryz.underlying82 mb (saidK st) rfl ey t rfl nL _ rfl false (by rw[ad iJ];rfl) ?_) | (at_lookup;refine wp_look_ok _ rfl _ _ 73 rfl 9 185 Tryz.underlying9 Tryz.underlying73 (Tryz.zeroValue185 _) tb n (stV ps Sp) rfl ki t.p rfl du _ hu _ hc ?_));go_ret;exact⟨(ad lQ).alloc (ad lQ).size _,.inl ⟨m,k,st,ad fw,ad nZ,by rw[ad HE];rfl⟩⟩
  ·go_wp2_with fail;go_ret;refine⟨(ad jt).trans ((ad gh).mono (ad jt).size),.inr ⟨λ m' k' st lY h=>?_,rfl⟩⟩;obtain⟨ns,h1,h2,h3⟩:=h;rw[ad HF] at h1;obtain⟨rfl,rfl⟩:k=k'/\aJ.map dX=ns:=by simpa using h1
   have e:=count_uniq (ad fw) lY;subst e;exact cP st ⟨h2,h3⟩
end
section
open Go.RowKit Go.Maps
theorem thOf_pa (A:RAtom):thOf (pa A)=if groundB A then some (thA A) else none:=by
 unfold thOf groundB thA pa;simp only[List.any_map,List.map_map];have e:(A.aS.any ((λ x=>x.1) ∘ dI))=!(A.aS.all λ t=>!t.isVar):=by
  induction A.aS with
  | nil=>rfl
  | cons t r ih=>
   rw[List.any_cons,List.all_cons,ih]
   show (t.isVar||_)=_
   cases t.isVar <;> simp
 rw[e]
 cases (A.aS.all λ t=>!t.isVar) with
 | true=>rfl
 | false=>rfl
theorem thing_eq (ps:P9)(q:B8):thingS ps q=if askOk ps q&&groundB (askAtom q) then some (thA (askAtom q)) else none:=by
 unfold thingS;rw[asked_eq]
 cases askOk ps q with
 | false=>rfl
 | true=>
  rw[if_pos rfl,Bool.true_and];exact thOf_pa (askAtom q)
end
section
open Go.Sort
variable {q:B8} {ps:P9}
theorem ask_word (h:(askOk ps q&&groundB (askAtom q))=true):tQ (thA (askAtom q))/\(thA (askAtom q)).2.length<=4:=by
 have o0:askEnd q=true:=by
  unfold askOk at h;simp only[Bool.and_eq_true] at h;exact h.1.1
 have hw:AtomW (pa (askAtom q)).p (pa (askAtom q)).ts:=pask_word (q:=q) (by rw[pask_eq,if_pos o0]);refine⟨⟨hw.pd,λ x hx=>?_⟩,by have:=hw.ft;simpa[pa,thA] using this⟩;obtain⟨t,ht,rfl⟩:=List.mem_map.1 hx;exact hw.ts (dI t) (List.mem_map.2 ⟨t,ht,rfl⟩)
theorem thw_ok {t:Th}(h:tQ t)(hf:t.2.length<=4):ThOk t:=
 ⟨by have:=h.pd.le;show t.1.size<=_;omega,hf,λ x hx=>by have:=(h.ts x hx).le;omega,λ x hx=>(h.ts x hx).ne⟩
theorem ask_thok (t:Th)(h:thingS ps q=some t):ThOk t:=by
 rw[thing_eq] at h
 split at h
 ·rename_i bX;obtain rfl:=Option.some.inj h;exact thw_ok (ask_word bX).1 (ask_word bX).2
 ·cases h
end
section
open Go.RowKit Go.Maps
attribute [local go_sem ↓] to_tLoad to_tStore to_tAlloc thV_cells
attribute [local go_sem] tStore_new run_tAlloc
variable {rs:List PR}
theorem rrow_below {w w':W8}{base:Nat}{rv:Value}(h:bR w base rv rs)(k:Below w.heap.size w w'):bR w' base rv rs:=
 ⟨own_below h.row k (λ g e=>(h.row.lt g e).2),λ r hr=>⟨own_below (h.each r hr).hd k (λ g e=>((h.each r hr).hd.lt g e).2),(h.each r hr).bo.below k,(h.each r hr).eq⟩⟩
def kI (ps:P9)(Sp:B8->Nat)(rs:List PR)(bs:List Nat)(t:Th)(e:Ending):Prop:=
 (∃ m k st,IsCount ps Sp m/\ew rs Sp m bs k st/\e=.returned (.int .i64 (showV ps Sp k (st.map (·.t)) t:Nat)))\/((∀ m k st,IsCount ps Sp m->¬ ew rs Sp m bs k st)/\e=.returned (.int .i64 (3:Nat)))
def ShnPost (w:W8)(ps:P9)(rs:List PR)(s:B8)(bs:List Nat)(e:Ending)(w':W8):Prop:=
 Below w.heap.size w w'/\((thingS ps s=none/\e=.returned (.int .i64 (3:Nat)))\/∃ t Sp,thingS ps s=some t/\ValidN (rs.map (·.R)) Sp/\LowN (rs.map (·.R)) Sp/\kI ps Sp rs bs t e)
theorem kI.int {ps:P9}{Sp:B8->Nat}{bs:List Nat}{t:Th}{e:Ending}(h:kI ps Sp rs bs t e):∃ n:Nat,e=.returned (.int .i64 (n:Nat)):=by
 rcases h with⟨_,_,_,_,_,rfl⟩ | ⟨_,rfl⟩
 ·exact⟨_,rfl⟩
 ·exact⟨_,rfl⟩
theorem shown_any (w:W8)(base b:Nat)(rs:List PR)(ps:P9)(s:B8)(hs:s.size<=2000000)(h:ProgIn w base b rs)(iG:rs.length<=30)(cE:∀ r∈rs,r.bs.length<=3)(eN:∀ r∈rs,r.R.pd.size<=800)(kX:∀ r∈rs,∀ x∈r.bs,x.1.pd.size<=800)(kc:AgreeL ((rs.map (·.R)).flatMap aZ) [])(gj:meetL ((rs.map (·.R)).flatMap aZ) []=ps)(dP:ps.length<=1000)(ak:∀ r∈rs,(∃ n,numOf ps r.R.pd=some n)/\∀ x∈r.bs,∃ n,numOf ps x.1.pd=some n)(f0:B8->Nat)(jM:ValidN (rs.map (·.R)) f0)(jd:∀ k,f0 k<=1000)(hg:∀ r∈rs,bF ps r)(oQ:∀ t,thingS ps s=some t->ThOk t)(ba:O8)(bc:Nat)(bs:List Nat)(cU:iP w ba bc bs):
  Calls Tryz.prog 47 #[.pointer (some ⟨b,0,none⟩),.string s,.slice ba bs.length bc] w (ShnPost w ps rs s bs):=by
 obtain⟨a,c,hb,jK,hr⟩:=h;have ja:b<w.heap.size:=(Array.getElem?_eq_some_iff.1 hb).1;have HR:=hide hr;have HG:=hide hg;have te:=hide oQ;have wH:=hide jM;have tt:=hide jd;have rN:=hide (of_any w base a c rs ps hr iG cE eN kX kc gj dP ak f0 jM jd);have HB:=hide hb;have ow:=hide cU;obtain⟨x0,_⟩:=block_cells hb 0;clear hr cE eN kX kc gj dP ak jM jd hg oQ hb cU;go_enter Tryz.func47,Tryz.ntmps47;go_wp2_with fail;refine (plist_any _ b _ a rs.length c rfl x0).mono ?_;rintro e w2 ⟨rfl,hw⟩;have hw:=hw.symm;subst hw;go_wp2_with fail;refine (ad rN).mono ?_;clear rN;rintro e w2 ⟨rfl,bZ,aU,S,n,hm,hn,fD,aX⟩;have xg:=hide (show ∀ k,S k<=1000000 from λ k=>by have:=aX f0 (ad wH) k;have:=ad tt k;omega);have HV:=hide fD;have iJ:=hide aX;have HM:=hide hm;have ep:=hide aU;clear fD aX hm aU x0;go_wp2_with fail;refine (readthing_any w2 s _ n ps S (ad HM) hs).mono ?_;rintro e w3 ⟨cE,rfl⟩;have pO:=cE.size;have iz:Below w.heap.size w w3:=(ad ep).trans (cE.mono (ad ep).size);have ey:=(ad HM).block (cE.block _ bZ)
 cases hP:thingS ps s with
 | none=>
  have HP:=hide hP;have gh:=hide iz;clear hP iz ey cE;rw[Option.getD_none,Option.isSome_none];go_wp2_with fail;go_ret;exact⟨(ad gh).alloc (ad gh).size _,.inl ⟨ad HP,rfl⟩⟩
 | some t=>
  have bX:=ad te t hP;have HP:=hide hP;have k4:Below w.heap.size w (w3.alloc (.cells (aq t).toArray 88)):=iz.alloc iz.size _;have j5:=(k4.block b ja).trans (ad HB);have jr:=ey.block (Below.heap_alloc w3 (.cells (aq t).toArray 88) w.heap.size (by omega));have t4:TV (w3.alloc (.cells (aq t).toArray 88)) w3.heap.size t:=heap_alloc_new _ _;rw[Option.getD_some,Option.isSome_some];clear hP iz ey cE;go_upto_region 5 with fail;generalize hw4:(w3.alloc (.cells (aq t).toArray 88))=w4 at *;have Ae:=hide (λ (W:W8) (hW:Below w4.heap.size w4 W)=>shows_any W base w.heap.size n ps S rs a c ba bc bs t ⟨rrow_below (ad HR) (k4.trans (hW.mono k4.size)),ad HG,jr.block (hW.block _ jr.lt),λ k _=>ad xg k,(ad ow).below (k4.trans (hW.mono k4.size)),bX⟩);have HX:=hide (λ (W:W8) (hW:Below w4.heap.size w4 W)=>(show W.cell? ⟨b,0,none⟩=some (.slice a rs.length c)/\(tLoad (.pointer (some ⟨w3.heap.size,0,none⟩))).run Tryz.prog W=.ok (thV t) W from ⟨(hW.cell (p:=⟨b,0,none⟩) (Array.getElem?_eq_some_iff.1 j5).1).trans (block_cells j5 0).1,(t4.below hW).load⟩));have oz:=hide k4;clear hw4 k4 j5 jr t4
  go_region_held3 (λ w'=>w'.cell? ⟨b,0,none⟩=some (.slice a rs.length c)/\(tLoad (.pointer (some ⟨w3.heap.size,0,none⟩))).run Tryz.prog w'=.ok (thV t) w') (first | exact ad HX _ bY | exact ad HX _ B9.drew) ((first | (go_at_call 36;refine (plist_any _ b _ a rs.length c rfl (ad HX _ B9.drew).1).mono ?_;rintro e w5 ⟨rfl,hw⟩;have hw:=hw.symm;subst hw) | (go_at_call 78;refine (ad Ae _ (by exact B9.drew)).mono ?_;rintro e w5 ⟨eO,h5⟩;have bY:Below w4.heap.size w4 w5:=below_of_drew eO;have h6:kI ps S rs bs t e:=h5;obtain⟨v,rfl⟩:=h6.int;have HE:=hide h6;clear h5 h6)))
  all_goals
   go_wp2_with fail;go_ret;exact⟨(ad oz).trans (bY.mono (ad oz).size),.inr ⟨t,S,ad HP,ad HV,ad iJ,ad HE⟩⟩
end
section
open Go.RowKit Go.Maps
def qK (ps:P9)(rs:List PR)(q:B8)(bs:List Nat)(e:Ending):Prop:=
 (thingS ps q=none/\e=.returned (.int .i64 (3:Nat)))\/∃ t Sp,thingS ps q=some t/\ValidN (rs.map (·.R)) Sp/\LowN (rs.map (·.R)) Sp/\kI ps Sp rs bs t e
def PChkE (s q:B8)(bs:List Nat)(e:Ending):Prop:=
 ((refLoad s).1=false/\e=.returned (.int .i64 (3:Nat)))\/((refLoad s).1=true/\∃ rp:List PR,rp.map (·.R)=(pparsed s).2.2.1/\(∀ r∈rp,r.bs.map (·.1)=r.R.body)/\qK (aj s).2 rp q bs e)
theorem qK.int {ps:P9}{rs:List PR}{q:B8}{bs:List Nat}{e:Ending}(h:qK ps rs q bs e):∃ n:Nat,e=.returned (.int .i64 (n:Nat)):=by
 rcases h with⟨_,rfl⟩ | ⟨_,_,_,_,_,h⟩
 ·exact⟨_,rfl⟩
 ·exact h.int
theorem refLoad_code (s:B8):(refLoad s).1=true↔(refLoad s).2.1=0:=by
 unfold refLoad
 split
 ·simp
 ·split
  ·simp
  ·split
   ·simp
   ·split
    ·simp
    ·split <;> simp
theorem pcheck_any (w:W8)(s q:B8)(hs:s.size<=maxLen)(hq:q.size<=2000000)(ba:O8)(bc:Nat)(bs:List Nat)(cU:iP w ba bc bs):
  Calls Tryz.prog 31 #[.string s,.string q,.slice ba bs.length bc] w λ e w'=>PChkE s q bs e/\Below w.heap.size w w':=by
 have hL:=pload_any w s hs;rw[load_eq] at hL;have HL:=hide hL;have ow:=hide cU;clear hL cU
 cases bX:(refLoad s).1 with
 | false=>
  have iS:=hide bX;have yt:(refLoad s).2.1≠0:=by
   have:=refLoad_code s;rw[bX] at this;simpa using this
  clear bX;go_enter Tryz.func31,Tryz.ntmps31;go_wp2_with (go_at_call 30;refine (ad HL).mono ?_;rintro e w1 ⟨aT,cP,-⟩;have he:=cP (ad iS);subst he;have cR:=hide aT;clear aT cP);go_ret;exact⟨.inl ⟨ad iS,rfl⟩,ad cR⟩
 | true=>
  have iS:=hide bX;have yt:(refLoad s).2.1=0:=by
   have:=refLoad_code s;rw[bX] at this;simpa using this
  have Ae:=hide (λ (W:W8) (b:Nat) (rs:List PR) (hW:Below w.heap.size w W) (hp:ProgIn W w.heap.size b rs) (hr:rs.map (·.R)=(pparsed s).2.2.1)=>(show Calls Tryz.prog 47 #[.pointer (some ⟨b,0,none⟩),.string q,.slice ba bs.length bc] W (ShnPost W (aj s).2 rs q bs)/\(∀ r∈rs,r.bs.map (·.1)=r.R.body) from by
   have hg:=good_of bX;obtain⟨f0,jM,jd⟩:=hg.some_;have ak:∀ r∈rs,r.R∈(pparsed s).2.2.1:=λ r dH=>by rw[<-hr];exact List.mem_map_of_mem dH
   have eL:∀ r∈rs,r.bs.map (·.1)=r.R.body:=λ r dH=>by
    obtain⟨a,c,_,_,eI⟩:=hp;exact (eI.each r dH).eq
   have oi:∀ r∈rs,∀ x∈r.bs,x.1∈r.R.body:=λ r dH x hx=>by rw[<-eL r dH];exact List.mem_map_of_mem hx
   have hl:rs.length<=30:=(by have:=hg.len;rw[<-hr,List.length_map] at this;exact this);have hR:=rules_rel bX hr eL
   exact⟨shown_any W w.heap.size b rs (aj s).2 q hq hp hl (λ r dH=>by have:=hg.body r.R (ak r dH);rw[<-eL r dH,List.length_map] at this;exact this) (λ r dH=>hg.pd r.R (ak r dH)) (λ r dH x hx=>hg.vW r.R (ak r dH) x.1 (oi r dH x hx)) (by rw[hr];exact hg.agree) (by rw[hr];exact hg.met) (by have:=hg.ft;omega) (λ r dH=>⟨(hg.named r.R (ak r dH)).1,λ x hx=>(hg.named r.R (ak r dH)).2 x.1 (oi r dH x hx)⟩) f0 (by rw[hr];exact jM) jd hR.dh ask_thok ba bc bs ((ad ow).below hW),eL⟩))
  clear bX;go_enter Tryz.func31,Tryz.ntmps31;go_upto_region 2 with (go_at_call 30;refine (ad HL).mono ?_;rintro e w1 ⟨aT,-,eJ⟩;obtain⟨b,rs,rfl,hp,hr⟩:=eJ (ad iS);have cR:=hide aT;have qE:=hide (And.intro hp hr);clear aT eJ hp hr);obtain⟨sg,eL⟩:=ad Ae w1 b rs (ad cR) (ad qE).1 (ad qE).2;have iQ:=hide sg;have rG:=hide eL;clear sg eL Ae HL;go_wp2_with (go_at_call 47;refine (ad iQ).mono ?_;rintro e w2 ⟨aU,h2⟩;have h3:qK (aj s).2 rs q bs e:=h2;obtain⟨v,rfl⟩:=h3.int;have HE:=hide h3;have ep:=hide aU;clear aU h2 h3);go_ret;exact⟨.inr ⟨ad iS,rs,(ad qE).2,ad rG,ad HE⟩,(ad cR).trans ((ad ep).mono (ad cR).size)⟩
end
section
theorem ew.uniq {rp:List PR}{Sp:B8->Nat}{m:Nat}{b:List Nat}{k k':Nat}{st fF:List aK}(h:ew rp Sp m b k st)(h':ew rp Sp m b k' fF):k=k'/\st=fF:=by
 obtain⟨ns,h1,_,h2,_⟩:=h;obtain⟨ns',vC,_,rX,_⟩:=h';rw[h1] at vC;injection (Option.some.inj vC) with e1 e2
 subst e2;rw[h2] at rX;exact⟨e1,Option.some.inj rX⟩
end
end Go.Proofs.YtldkpahaocjdpaaGreat
