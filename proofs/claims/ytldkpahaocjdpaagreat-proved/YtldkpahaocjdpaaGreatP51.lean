/-
  Plain: the document's example, computed.
-/
import Derived.Test.YtldkpahaocjdpaaGreatP50
set_option maxHeartbeats 16000000
set_option maxRecDepth 1000000
namespace Go.Proofs.YtldkpahaocjdpaaGreat
section
def dupT:List Th->List Th
 | []=>[]
 | t::r=>if (r.any λ x=>decide (x=t)) then dupT r else t::dupT r
theorem dupT_mem {t:Th}:∀ l:List Th,t∈dupT l↔t∈l
 | []=>Iff.rfl
 | u::r=>by
  unfold dupT
  split
  ·rename_i h;obtain⟨x,hx,e⟩:=List.any_eq_true.1 h;have e:=of_decide_eq_true e;subst e;rw[dupT_mem r,List.mem_cons];exact⟨.inr,λ h'=>h'.elim (λ e=>by rw[e];exact hx) id⟩
  ·rw[List.mem_cons,List.mem_cons,dupT_mem r]
theorem dupT_nodup:∀ l:List Th,(dupT l).Nodup
 | []=>.nil
 | u::r=>by
  unfold dupT
  split
  ·exact dupT_nodup r
  ·rename_i h;exact List.nodup_cons.2 ⟨λ h'=>h (List.any_eq_true.2 ⟨u,(dupT_mem r).1 h',decide_eq_true rfl⟩),dupT_nodup r⟩
def newT (rs:List PR)(K:List (Th × Nat)):List Th:=dupT ((rs.flatMap λ r=>(pways K (negOf r.bs) (posOf r.bs) []).map λ e=>aC e (aS r)).filter λ t=>(ay K t).isNone)
theorem newT_mem {rs:List PR}{K:List (Th × Nat)}{t:Th}:t∈newT rs K↔NewB rs K t:=by
 unfold newT NewB;rw[dupT_mem,List.mem_filter,List.mem_flatMap]
 constructor
 ·rintro⟨⟨r,hr,h⟩,hn⟩;obtain⟨e,he,hf⟩:=List.mem_map.1 h;exact⟨Option.isNone_iff_eq_none.1 hn,r,hr,e,he,hf⟩
 ·rintro⟨hn,r,hr,e,he,hf⟩;exact⟨⟨r,hr,List.mem_map.2 ⟨e,he,hf⟩⟩,Option.isNone_iff_eq_none.2 hn⟩
theorem newT_nodup (rs:List PR)(K:List (Th × Nat)):(newT rs K).Nodup:=dupT_nodup _
def climbF (rs:List PR)(limit:Nat):Nat->Nat->List (Th × Nat)->Option (List (Th × Nat))
 | 0,_,_=>none
 | f+1,h,K=>if (newT rs K).isEmpty then some K else if K.length+(newT rs K).length<=limit then climbF rs limit f (h+1) (K++(newT rs K).map λ t=>(t,h)) else none
theorem climbF_ok {rs:List PR}{limit:Nat}:∀ (f h:Nat) (K K':List (Th × Nat)),climbF rs limit f h K=some K'->PClimb rs limit h K (some K')
 | 0,_,_,_,e=>by cases e
 | f+1,h,K,K',e=>by
  unfold climbF at e
  split at e
  ·rename_i h0;obtain rfl:=Option.some.inj e;exact .done λ t ht=>by
    have:=newT_mem.2 ht;rw[List.isEmpty_iff.1 h0] at this
    cases this
  ·rename_i h0
   split at e
   ·rename_i hl;refine .more (L:=(newT rs K).map λ t=>(t,h)) (λ e=>h0 (by rw[List.map_eq_nil_iff.1 e];rfl)) ?_ (λ p hp=>?_) (λ t=>?_) (by rw[List.length_map];exact hl) (climbF_ok f _ _ _ e)
    ·rw[List.map_map];have:((λ x:Th × Nat=>x.1) ∘ λ t=>(t,h))=id:=rfl;rw[this,List.map_id];exact newT_nodup rs K
    ·obtain⟨_,_,rfl⟩:=List.mem_map.1 hp;rfl
    ·rw[<-newT_mem]
     constructor
     ·rintro⟨n,hn⟩;obtain⟨u,hu,e⟩:=List.mem_map.1 hn;rw[<-(Prod.mk.inj e).1];exact hu
     ·intro ht;exact⟨h,List.mem_map.2 ⟨t,ht,rfl⟩⟩
   ·cases e
def stratF (rs:List PR)(S:B8->Nat)(limit:Nat):Nat->Nat->List (Th × Nat)->Option (List (Th × Nat))
 | 0,_,K=>some K
 | f+1,s,K=>(climbF (rs.filter (bH S s)) limit 60 1 K).bind (stratF rs S limit f (s+1))
theorem stratF_ok {rs:List PR}{S:B8->Nat}{limit:Nat}(count:Nat):∀ (f s:Nat) (K K':List (Th × Nat)),s+f=count->stratF rs S limit f s K=some K'->PStrat rs S limit count s K (some K')
 | 0,s,K,K',hs,e=>by obtain rfl:=Option.some.inj e;exact .ends (by omega)
 | f+1,s,K,K',hs,e=>by
  unfold stratF at e;obtain⟨K1,h1,h2⟩:=Option.bind_eq_some_iff.1 e;exact .next (by omega) (climbF_ok 60 1 K K1 h1) (stratF_ok count f (s+1) K1 K' (by omega) h2)
def gH:B8:={ data:=#[102,97,114] }
def edgB:B8:={ data:=#[101,100,103,101] }
def patB:B8:={ data:=#[112,97,116,104] }
def sc (k:B8):Nat:=if k=gH then 1 else 0
def exR:List PR:=(pparsed exText).2.2.1.map λ R=>⟨R,undef,R.body.map λ l=>(l,undef),undef⟩
def exK:List (Th × Nat):=[((edgB,[one8 97,one8 98]),1),((edgB,[one8 98,one8 99]),1),((patB,[one8 97,one8 98]),2),((patB,[one8 98,one8 99]),2),((patB,[one8 97,one8 99]),3),((gH,[one8 99]),1)]
theorem ex_load:refLoad exText=(true,0,0):=by decide +kernel
theorem ex_strat:stratF exR sc 10 2 0 []=some exK:=by decide +kernel
end
section
open Go.RowKit Go.Maps
theorem sortT_eq {zs:List B8}{L:List (List UInt8)}(h:(zs.map λ s=>s.data.toList).Perm L)(hs:L.Pairwise λ a b=>a<=b):sortT zs=L:=by
 have h1:(sortT zs).Pairwise λ a b=>a<=b:=by
  have:=List.pairwise_mergeSort (le:=λ x y:List UInt8=>decide (x<=y)) (λ a b c h1 h2=>by
   simp only[decide_eq_true_eq] at *
   exact List.le_trans h1 h2) (λ a b=>by
   simp only[Bool.or_eq_true,decide_eq_true_eq]
   exact List.le_total a b) (zs.map λ s=>s.data.toList)
  exact this.imp λ h=>by simpa using h
 exact List.Perm.eq_of_pairwise (le:=λ a b=>a<=b) (λ a b _ _ h1 h2=>List.le_antisymm h1 h2) h1 hs ((List.mergeSort_perm _ _).trans h)
theorem kV:∀ R∈(pparsed exText).2.2.1,∀ l∈R.body,(sc l.pd+if l.neg then 1 else 0)<=sc R.pd:=by decide +kernel
theorem ex_far:∃ R∈(pparsed exText).2.2.1,R.pd=gH/\∃ l∈R.body,l.neg=true:=by decide +kernel
theorem tT:(numOf (aq exText).2 gH).isSome=true:=by decide +kernel
theorem nx:exR.map (·.R)=(pparsed exText).2.2.1:=by
 unfold exR;rw[List.map_map];exact List.map_id _
theorem lY:∀ r∈exR,r.bs.map (·.1)=r.R.body:=λ r hr=>by
 obtain⟨R,_,rfl⟩:=List.mem_map.1 hr
 show (R.body.map λ l=>(l,undef)).map (·.1)=R.body
 rw[List.map_map];exact List.map_id _
variable {rs:List PR}
theorem ex_mod (hr:rs.map (·.R)=(pparsed exText).2.2.1)(hb:∀ r∈rs,r.bs.map (·.1)=r.R.body):Mod exText rs 10 sc 2 (some exK):=by
 refine⟨λ R hR=>by rw[hr] at hR;exact kV R hR,λ f hf k=>?_,⟨λ k _=>?_,.inr ⟨gH,tT,rfl⟩⟩,?_⟩
 ·unfold sc
  split
  ·rename_i e;subst e;obtain⟨R,hR,hp,l,hl,hn⟩:=ex_far;have:=hf R (by rw[hr];exact hR) l hl;rw[hn,if_pos rfl,hp] at this;omega
  ·omega
 ·unfold sc;split <;> omega
 ·exact fA ⟨λ R=>by rw[nx,hr],lY,hb⟩ (stratF_ok 2 2 0 [] exK rfl ex_strat)
theorem ex_lvl:Lvl exText:=⟨sc,kV,λ k=>by unfold sc;split <;> omega⟩
def exQ:B8:={ data:=#[112,97,116,104,40,97,44,88,41] }
def exC:B8:={ data:=#[102,97,114,40,99,41] }
def exB:B8:={ data:=#[102,97,114,40,98,41] }
def exAB:B8:={ data:=#[112,97,116,104,40,97,44,98,41] }
def exAC:B8:={ data:=#[112,97,116,104,40,97,44,99,41] }
def exA:PAtm:=⟨patB,[(false,one8 97),(true,one8 88)]⟩
theorem ex_thC:thingS (aq exText).2 exC=some (gH,[one8 99]):=by decide +kernel
theorem ex_thB:thingS (aq exText).2 exB=some (gH,[one8 98]):=by decide +kernel
theorem ex_askM:(askedS (aq exText).2 exQ).map (λ A=>(A.p,A.ts))=some (patB,[(false,one8 97),(true,one8 88)]):=by decide +kernel
theorem ex_ask:askedS (aq exText).2 exQ=some exA:=by
 have h:=ex_askM
 cases e:askedS (aq exText).2 exQ with
 | none=>rw[e] at h;cases h
 | some A=>
  rw[e] at h;obtain⟨p,ts⟩:=A;have h:(p,ts)=(patB,[(false,one8 97),(true,one8 88)]):=Option.some.inj h;obtain⟨rfl,rfl⟩:=Prod.mk.inj h;rfl
theorem ex_hit:((exK.filter (hitB exA)).map λ p=>thText p.1)=[exAB,exAC]:=by decide +kernel
theorem ex_is (hr:rs.map (·.R)=(pparsed exText).2.2.1)(hb:∀ r∈rs,r.bs.map (·.1)=r.R.body){S:B8->Nat}{m:Nat}{r:Option (List (Th × Nat))}(h:Mod exText rs 10 S m r):∃ K,r=some K/\exK.Perm K:=by
 obtain⟨_,_,⟨e,_⟩ | ⟨A,B,e1,e2,h3,_⟩⟩:=(ex_mod hr hb).uniq hb h
 ·cases e
 ·obtain rfl:=Option.some.inj e1;exact⟨B,e2,h3⟩
variable {e:Ending} {w w':W8}
theorem ex_query (hr:rs.map (·.R)=(pparsed exText).2.2.1)(hb:∀ r∈rs,r.bs.map (·.1)=r.R.body)(h:PQOut w rs (aq exText).2 exQ 10 w' e):∃ g c,e=.returned (.tuple #[.slice (some ⟨g,0,none⟩) 2 c,.int .i64 0])/\2<=c/\c<=maxLen/\g<w'.heap.size/\w'.cell? ⟨g,0,none⟩=some (.string exAB)/\w'.cell? ⟨g,1,none⟩=some (.string exAC):=by
 cases h with
 | arg h=>exact absurd h (by decide)
 | ask _ h=>rw[ex_ask] at h;cases h
 | fh _ _ hv fW hc dj=>obtain⟨K,e,_⟩:=ex_is hr hb ⟨hv,fW,hc,dj⟩;cases e
 | @yes A S m K zs a c _ hA hv fW hc dj dC hp aF=>
  rw[ex_ask] at hA;obtain rfl:=Option.some.inj hA;obtain⟨K',e,hK⟩:=ex_is hr hb ⟨hv,fW,hc,dj⟩;obtain rfl:=Option.some.inj e;have hz:zs.Perm [exAB,exAC]:=by
   have:=hp.trans ((hK.symm.filter (hitB exA)).map λ p=>thText p.1)
   rwa [ex_hit] at this
  have vV:zs.length=2:=hz.length_eq;have jU:sortT zs=[exAB.data.toList,exAC.data.toList]:=sortT_eq (hz.map _) (by decide);rw[vV,jU] at aF;have hT:=np.fy (zs:=[exAB,exAC]) aF;obtain⟨g,rfl,hg,h0⟩:=hT.at_ 0 (by simp);obtain⟨g',e',_,h1⟩:=hT.at_ 1 (by simp);obtain rfl:g=g':=by simpa using e'
  exact⟨g,c,by rw[vV],hT.cap,hT.max,hg,h0,h1⟩
theorem ex_look {K:List (Th × Nat)}(h:exK.Perm K):(ay K (gH,[one8 99])).isSome=true/\(ay K (gH,[one8 98])).isSome=false:=by
 have hm:∀ t,t∈K.map (·.1)↔t∈exK.map (·.1):=λ t=>(h.map _).mem_iff.symm
 constructor
 ·exact look_keys.2 ((hm _).2 (List.mem_map.2 ⟨((gH,[one8 99]),1),by simp[exK],rfl⟩))
 ·cases hx:(ay K (gH,[one8 98])).isSome with
  | false=>rfl
  | true=>
   exfalso
   have h1:=(hm _).1 (look_keys.1 hx);obtain⟨y,hy,he⟩:=List.mem_map.1 h1;have:∀ y∈exK,y.1≠(gH,[one8 98]):=by decide
   exact this y hy he
theorem ex_explain {xb lo:Nat}{w0:W8}(hP:fo exText xb w0 lo rs){q:B8}{t:Th}(ht:thingS (aq exText).2 q=some t)(h:PEOut w rs (aq exText).2 q 10 (reaK (aq exText).2 rs) w' e):∃ S m K O bs a c,kT exText rs 10 S m K t O bs/\exK.Perm K/\e=.returned (.tuple #[.agg #[.int .i64 ((if (ay K t).isSome then 1 else 2:Nat):Nat),.int .i64 (((ay K t).getD 0:Nat):Int),.slice a bs.length c],.int .i64 0])/\iJ w' a c bs:=by
 rcases explain_out (limit:=10) (by decide) (by decide) hP.cE ht h with⟨S,m,hM,_⟩ | ⟨S,m,K,O,bs,a,c,hW,dC,he,aF⟩
 ·obtain⟨K,e,_⟩:=ex_is hP.rules hP.cE hM;cases e
 ·obtain⟨K',e,hK⟩:=ex_is hP.rules hP.cE hW.mod;obtain rfl:=Option.some.inj e;exact⟨S,m,K,O,bs,a,c,hW,hK,he,iJ.fy (hW.byte hP ex_lvl (by decide)) aF⟩
end
section
open Go.RowKit Go.Maps
theorem wit_check {s:B8}{rs:List PR}{xb lo:Nat}{w0:W8}(hP:fo s xb w0 lo rs){limit:Nat}(hl:limit<=50){S:B8->Nat}{m:Nat}{K:List (Th × Nat)}{t:Th}{O:List Pl}{bs:List Nat}(hW:kT s rs limit S m K t O bs){q:B8}(ht:thingS (aq s).2 q=some t){e:Ending}(hE:PChkE s q bs e):e=.returned (.int .i64 ((if (ay K t).isSome then 1 else 2:Nat):Nat)):=by
 have he:=hW.eq;subst he;exact chk_proved hP hl hW.mod hW.len ht hW.perm hW.sort hE
theorem kknown (w:W8):Calls Tryz.prog 16 #[] w λ e w'=>e=.returned (.bool true)/\Below w.heap.size w w':=by
 have HL:=hide (kload w exText ex_size ex_load);go_enter Tryz.func16,Tryz.ntmps16;go_wp2_with fail;refine (ad HL).mono ?_;rintro e w1 ⟨xb,rs,rfl,hP,aX⟩;clear HL;have HP:=hide hP;have cR:=hide aX;have HQ:=hide (pent_query hP exQ (by decide) 10);clear hP aX;go_wp2_with fail;refine (ad HQ).mono ?_;rintro e w2 ⟨ho,aY⟩;obtain⟨g,c,rfl,nD,dx,hg,h0,h1⟩:=ex_query (ad HP).rules (ad HP).cE ho;have iT:=hide ((ad HP).below aY);have eA:=hide ((ad cR).trans (aY.mono (ad cR).size));have HG:=hide (And.intro hg (And.intro h0 h1));have zJ:=hide (pent_explain (ad iT) exC (by decide) 10);unfold maxLen at dx;clear ho aY HQ h0 h1 hg HP cR;go_wp2_with fail;refine (ad zJ).mono ?_;rintro e w3 ⟨ho,cQ⟩;obtain⟨S,m,K,O,bs,a,c3,hW,hK,rfl,jr⟩:=ex_explain (ad iT) ex_thC ho;have od:=hide ((ad iT).below cQ);have il:=hide ((ad eA).trans (cQ.mono (ad eA).size));have yw:g<w3.heap.size:=Nat.lt_of_lt_of_le (ad HG).1 cQ.size;have vm:=hide (And.intro yw (And.intro ((cQ.cell (p:=⟨g,0,none⟩) (ad HG).1).trans (ad HG).2.1) ((cQ.cell (p:=⟨g,1,none⟩) (ad HG).1).trans (ad HG).2.2)));have HW:=hide (And.intro hW hK);have kD:=hide jr;rw[if_pos (ex_look hK).1];generalize (ay K (gH,[one8 99])).getD 0=hh;have jb:bs.length<=c3:=jr.cap;have ot:c3<=maxLen:=jr.max;have vk:=hide (λ (W:W8) (hk:Below w3.heap.size w3 W)=>pent_explain ((ad od).below hk) exB (by decide) 10);have xG:=(Below.refl w3.heap.size w3).alloc L9 (.cells #[.int .i64 ((1:Nat):Int),.int .i64 (hh:Nat),.slice a bs.length c3] 49);have qu:=hide xG;have hY:=heap_alloc_new w3 (.cells #[.int .i64 ((1:Nat):Int),.int .i64 (hh:Nat),.slice a bs.length c3] 49);have HY:=hide hY;have uO:(w3.alloc (.cells #[.int .i64 ((1:Nat):Int),.int .i64 (hh:Nat),.slice a bs.length c3] 49)).heap.size=w3.heap.size+1:=by simp
 have qI:=hide uO;unfold maxLen at ot;clear ho cQ zJ hW hK jr iT eA HG xG hY uO yw;go_wp2_with fail;refine (ad vk _ (ad qu)).mono ?_;rintro e w4 ⟨ho,bP⟩;obtain⟨S4,m4,K4,O4,vw,a4,c4,E4,BS,rfl,qV⟩:=ex_explain ((ad od).below (ad qu)) ex_thB ho;have Cf:=bP.size;rw[ad qI] at Cf;have AB:=(bP.block w3.heap.size (by rw[ad qI];omega)).trans (ad HY);have y0:w4.cell? ⟨w3.heap.size,0,none⟩=some (.int .i64 ((1:Nat):Int)):=by simp[World.cell?,AB]
 have y2:w4.cell? ⟨w3.heap.size,2,none⟩=some (.slice a bs.length c3):=by simp[World.cell?,AB]
 have lZ:=(ad qu).trans (bP.mono (by rw[ad qI];omega));have rS:=hide ((ad od).below lZ);have eC:=hide ((ad il).trans (lZ.mono (ad il).size));have I7:g<w4.heap.size:=Nat.lt_of_lt_of_le (ad vm).1 lZ.size;have g0:w4.cell? ⟨g,0,none⟩=some (.string exAB):=(lZ.cell (p:=⟨g,0,none⟩) (ad vm).1).trans (ad vm).2.1;have g1:w4.cell? ⟨g,1,none⟩=some (.string exAC):=(lZ.cell (p:=⟨g,1,none⟩) (ad vm).1).trans (ad vm).2.2;unfold exAB at g0;unfold exAC at g1;have Er:=hide (And.intro E4 BS);have jr:=(ad kD).below lZ;rw[(ex_look BS).2,if_neg (by simp)];generalize (ay K4 (gH,[one8 98])).getD 0=vF;have IW:vw.length<=c4:=qV.cap;have Ck:c4<=maxLen:=qV.max;have xH:=(Below.refl w4.heap.size w4).alloc L9 (.cells #[.int .i64 ((2:Nat):Int),.int .i64 (vF:Nat),.slice a4 vw.length c4] 49);have tj:=hide xH;have vi:=hide (λ (W:W8) (hk:Below w4.heap.size w4 W)=>pcheck_any W exText exC ex_size (by decide) a c3 bs (jr.below hk));have mX:=hide (λ (W:W8) (hk:Below w4.heap.size w4 W)=>pcheck_any W exText exB ex_size (by decide) a4 c4 vw (qV.below hk));have vj:=hide (λ (W:W8) (hk:Below w4.heap.size w4 W)=>pcheck_any W exText exB ex_size (by decide) a c3 bs (jr.below hk));have hZ:=heap_alloc_new w4 (.cells #[.int .i64 ((2:Nat):Int),.int .i64 (vF:Nat),.slice a4 vw.length c4] 49);have HZ:=hide hZ;have Im:=hide AB;have uP:(w4.alloc (.cells #[.int .i64 ((2:Nat):Int),.int .i64 (vF:Nat),.slice a4 vw.length c4] 49)).heap.size=w4.heap.size+1:=by simp
 have qJ:=hide uP;unfold maxLen at Ck;clear ho bP vk E4 BS jr qV od il qu HY qI vm xH hZ AB lZ uP kD;have yH:w3.heap.size<w4.heap.size:=by omega
 generalize w3.heap.size=b3 at *;go_wp2_with fail;refine (ad vi _ (ad tj)).mono ?_;rintro e w5 ⟨ho,eO⟩;have he:=wit_check (ad rS) (by decide) (ad HW).1 ex_thC ho;rw[if_pos (ex_look (ad HW).2).1] at he;subst he;have Cg:=eO.size;rw[ad qJ] at Cg;have z5:=(eO.block w4.heap.size (by rw[ad qJ];omega)).trans (ad HZ);have nB:=(ad tj).trans (eO.mono (by rw[ad qJ];omega));have iP:=hide ((ad eC).trans (nB.mono (ad eC).size));have y5:w5.cell? ⟨b3,2,none⟩=some (.slice a bs.length c3):=(nB.cell (p:=⟨b3,2,none⟩) yH).trans y2;have u3:w5.cell? ⟨w4.heap.size,2,none⟩=some (.slice a4 vw.length c4):=by simp[World.cell?,z5]
 have yI:w4.heap.size<w5.heap.size:=by omega
 have wo:=hide (ad mX w5 nB);have wu:=hide (λ (W:W8) (hk:Below w5.heap.size w5 W)=>ad vj W (nB.trans (hk.mono nB.size)));clear ho eO vi mX vj eC tj HZ qJ nB z5 y0 y2 g0 g1 I7 Im;generalize w4.heap.size=b4 at *;go_wp2_with fail;refine (ad wo).mono ?_;rintro e w6 ⟨ho,eE⟩;have he:=wit_check (ad rS) (by decide) (ad Er).1 ex_thB ho;rw[(ex_look (ad Er).2).2,if_neg (by simp)] at he;subst he;have y6:w6.cell? ⟨b3,2,none⟩=some (.slice a bs.length c3):=(eE.cell (p:=⟨b3,2,none⟩) (by show b3<_;omega)).trans y5;have nY:=hide ((ad iP).trans (eE.mono (ad iP).size));have wv:=hide (ad wu w6 eE);clear ho eE wo wu y5 u3 iP;go_wp2_with fail;refine (ad wv).mono ?_;rintro e w7 ⟨ho,mG⟩;have GI:=hide ((ad nY).trans (mG.mono (ad nY).size));obtain⟨v,he,JY,uS,_⟩:=chk_sound (ad rS) (ad HW).1.mod ex_thB ho;have bJ:¬ v=1:=λ h=>by
  have:=look_keys.2 (uS h);rw[(ex_look (ad HW).2).2] at this
  cases this
 have hv:v=2\/v=3:=by omega
 clear ho mG JY uS bJ y6 nY;subst he;rcases hv with rfl | rfl
 all_goals
  go_wp2_with fail;go_ret;exact⟨rfl,ad GI⟩
end
section
variable {t:Th} {ps:P9}
theorem thing_word {q:B8}(h:thingS ps q=some t):qj t:=by
 rw[thing_eq] at h
 split at h
 ·rename_i bZ;obtain rfl:=Option.some.inj h;exact (ask_word bZ).1
 ·cases h
variable {K:List (Th × Nat)} {m limit:Nat} {S:B8->Nat} {rs:List PR} {s:B8}
theorem told_iff (h2:TwoP (aq s).2)(hg:∀ r∈rs,bu (aq s).2 r)(hM:Mod s rs limit S m (some K))(ht:qj t):thText t∈allL K 4↔t∈K.map (·.1):=by
 have zn:=hM.ti hg;unfold allL;rw[List.mem_flatMap]
 constructor
 ·rintro⟨k,_,h⟩;unfold iY at h;rw[j0] at h;obtain⟨p,hp,he⟩:=List.mem_map.1 h;have FF:=(List.mem_filter.1 hp).1;exact List.mem_map.2 ⟨p,FF,thText_inj (zn p FF).w ht he⟩
 ·intro h;obtain⟨p,hp,rfl⟩:=List.mem_map.1 h;obtain⟨hl,i,hi,he⟩:=h2 _ _ (zn p hp).num;refine⟨i,List.mem_range.2 hi,?_⟩;unfold iY;rw[j0];refine List.mem_map.2 ⟨p,List.mem_filter.2 ⟨hp,?_⟩,rfl⟩;obtain⟨t,n⟩:=p;exact (hit_K hl n).2 he
theorem among_look (h2:TwoP (aq s).2)(hg:∀ r∈rs,bu (aq s).2 r)(hM:Mod s rs limit S m (some K))(ht:qj t):amongB (thText t) (allL K 4)=(ay K t).isSome:=by
 rw[Bool.eq_iff_iff,amongB_iff,told_iff h2 hg hM ht,look_keys]
variable {r:Option (List (Th × Nat))}
theorem climb_pos {n:Nat}(h:PClimb rs limit n K r):1<=n->(∀ p∈K,1<=p.2)->∀ K',r=some K'->∀ p∈K',1<=p.2:=by
 induction h with
 | fh _ _ _ _=>intro _ _ K' e;cases e
 | done _=>intro _ hK K' e;obtain rfl:=Option.some.inj e;exact hK
 | more _ _ h3 _ _ _ ih=>
  intro hn hK;refine ih (by omega) λ p hp=>?_
  rcases List.mem_append.1 hp with hp | hp
  ·exact hK p hp
  ·rw[h3 p hp];exact hn
theorem strat_pos {count s:Nat}(h:PStrat rs S limit count s K r):(∀ p∈K,1<=p.2)->∀ K',r=some K'->∀ p∈K',1<=p.2:=by
 induction h with
 | ends _=>intro hK K' e;obtain rfl:=Option.some.inj e;exact hK
 | fs _ _=>intro _ K' e;cases e
 | next _ h2 _ ih=>exact λ hK=>ih (climb_pos h2 L9 hK _ rfl)
theorem height_pos (hM:Mod s rs limit S m (some K))(t:Th):0<(ay K t).getD 0↔(ay K t).isSome=true:=by
 cases h:ay K t with
 | none=>simp
 | some n=>
  have:=strat_pos hM.jn (by simp) K rfl _ (bq h);simp only[Option.getD_some,Option.isSome_some,iff_true];exact this
theorem thAll_at {x:Nat}(h:x<64):jo[x]?=some (fB (x/16) (x%16)):=by
 have:∀ x:Nat,x<64->jo[x]?=some (fB (x/16) (x%16)):=by decide
 exact this x h
theorem thAll_len:jo.length=64:=by unfold jo;rw[thUpto_len]
def thX (x:Nat):Th:=thK (x/16) (x%16/4) (x%16%4)
theorem thX_text (x:Nat):thText (thX x)=fB (x/16) (x%16):=thText_K _ _
theorem thX_thing (h:TwoP ps)(x:Nat):thingS ps (fB (x/16) (x%16))=some (thX x):=thing_K h _ _
theorem mn:thText (fP,[])=fP:=by decide
theorem thTx_size (p i:Nat):(fB p i).size<=2000000:=by unfold fB;rw[txt8_size];simp
end
section
open Go.RowKit Go.Maps
structure IntsIn (w:W8)(a:O8)(n:Nat)(X:Nat->Int):Prop where
 el:∀ i,i<n->∃ g off,a=some ⟨g,off,none⟩/\g<w.heap.size/\w.cell? ⟨g,off+i,none⟩=some (.int .i64 (X i))/\inR (X i)
variable {n:Nat} {w w':W8}
theorem IntsIn.below {a:O8}{X:Nat->Int}(h:IntsIn w a n X)(k:Below w.heap.size w w'):IntsIn w' a n X:=
 ⟨λ i hi=>by
  obtain⟨g,off,h1,h2,c0,h3⟩:=h.el i hi
  exact⟨g,off,h1,Nat.lt_of_lt_of_le h2 k.size,(k.cell (p:=⟨g,off+i,none⟩) h2).trans c0,h3⟩⟩
structure TextK (s:B8):Prop where
 ok:refLoad s=(true,0,0)
 sz:s.size<=maxLen
 two:TwoP (aq s).2
 lvl:Lvl s
theorem textK_of (R:Nat->Raw)(hn:n<=14):TextK (cY (cT (λ i=>dJ (R i)) n)):=by
 have hL:∀ i,i<n->(dJ (R i)).Ok:=λ i _=>lineOf_ok _ _ _ _
 refine⟨(textK_ok _ n hn hL).1,?_,two_text hn hL,lvl_text hn hL⟩;have:=textB_len (λ i=>dJ (R i)) n;rw[txt8_size];unfold maxLen;omega
def TellK (s:B8)(rs:List PR)(sm:Bool)(zs:List B8):Prop:=∃ S m,if sm then ∃ K,Mod s rs 50 S m (some K)/\zs=allL K 4 else Mod s rs 50 S m none
structure AskX (s q:B8)(t:Th):Prop where
 qa:thingS (aq s).2 q=some t
 text:q=thText t
 sz:q.size<=2000000
variable {m:Nat} {S:B8->Nat} {zs:List B8} {sm:Bool} {rs:List PR} {s:B8}
theorem told_over (cK:∀ r∈rs,r.bs.map (·.1)=r.R.body)(h:TellK s rs sm zs)(hM:Mod s rs 50 S m none):sm=false:=by
 obtain⟨S',m',h⟩:=h
 cases sm with
 | false=>rfl
 | true=>
  obtain⟨K,hK,_⟩:=h;obtain⟨_,_,⟨e,_⟩ | ⟨A,B,e1,e2,_,_⟩⟩:=hK.uniq cK hM
  ·cases e
  ·cases e2
variable {K:List (Th × Nat)}
theorem told_yes (cK:∀ r∈rs,r.bs.map (·.1)=r.R.body)(h:TellK s rs sm zs)(hM:Mod s rs 50 S m (some K)):sm=true/\zs=allL K 4:=by
 obtain⟨S',m',h⟩:=h
 cases sm with
 | false=>
  obtain⟨_,_,⟨_,e⟩ | ⟨A,B,e1,e2,_,_⟩⟩:=Mod.uniq cK h hM
  ·cases e
  ·cases e1
 | true=>
  obtain⟨K',tY,rfl⟩:=h;obtain⟨_,_,⟨e,_⟩ | ⟨A,B,e1,e2,h3,_⟩⟩:=tY.uniq cK hM
  ·cases e
  ·obtain rfl:=Option.some.inj e1;obtain rfl:=Option.some.inj e2;exact⟨rfl,jI h3 4⟩
theorem told_look (h2:TwoP (aq s).2)(hg:∀ r∈rs,bu (aq s).2 r)(cK:∀ r∈rs,r.bs.map (·.1)=r.R.body)(h:TellK s rs true zs)(hM:Mod s rs 50 S m (some K)){q:B8}{t:Th}(hq:AskX s q t):amongB q zs=(ay K t).isSome:=by
 rw[(told_yes cK h hM).2,hq.text];exact among_look h2 hg hM (thing_word hq.qa)
theorem askX_th (h:TwoP (aq s).2)(x:Nat):AskX s (fB (x/16) (x%16)) (thX x):=⟨thX_thing h x,(thX_text x).symm,thTx_size _ _⟩
theorem askX_owl (h:TwoP (aq s).2):AskX s { data:=#[111,119,108] } (fP,[]):=⟨nX h,mn.symm,by decide⟩
theorem j2.shape {e:Ending}(h:j2 s rs w e w'):∃ a c zs sm,e=.returned (.tuple #[.slice a zs.length c,.bool sm])/\np w' a c zs/\TellK s rs sm zs/\Below w.heap.size w w':=by
 obtain⟨hb,S,m,r,hM,⟨rfl,rfl⟩ | ⟨K,a,c,rfl,hK,rfl,aF⟩⟩:=h
 ·exact⟨none,0,[],false,rfl,⟨Nat.le_refl _,by unfold maxLen;omega,λ j hj=>by simp at hj⟩,⟨S,m,hM⟩,hb⟩
 ·exact⟨a,c,allL K 4,true,rfl,np.fy aF,⟨S,m,K,hM,rfl⟩,hb⟩
end
section
open Go.RowKit Go.Maps
def TruePost (w:W8)(e:Ending)(w':W8):Prop:=e=.returned (.bool true)/\Below w.heap.size w w'
theorem proved_any (w:W8)(la:O8)(n c:Nat)(R:Nat->Raw)(hL:fC w la n R)(dB:n<=c)(dx:c<=maxLen)(wa:O8)(nw cw:Nat)(X:Nat->Int)(hX:IntsIn w wa nw X)(I0:cw<=maxLen):Calls Tryz.prog 13 #[.slice la n c,.slice wa nw cw] w (TruePost w):=by
 have HX:=hide hX;have HL:=hide hL;have HN:=hide (And.intro dB dx);have Cp:=I0;unfold maxLen at Cp;clear hX hL dB dx;go_enter Tryz.func13,Tryz.ntmps13;go_wp2_with fail;refine (kknown w).mono ?_;rintro e w1 ⟨rfl,aX⟩;have cR:=hide aX;have HT:=hide (ktext w1 la n c R ((ad HL).below aX) (ad HN).1 (ad HN).2 14 (by decide));clear aX;go_wp2_with fail;refine (ad HT).mono ?_;rintro e w2 ⟨rfl,aY⟩;have hK:=textK_of R (n:=min n 14) (by omega);generalize cY (cT (λ i=>dJ (R i)) (min n 14))=s at *;have HK:=hide hK;have eA:=hide ((ad cR).trans (aY.mono (ad cR).size));have D8:=hide (kload w2 s hK.sz hK.ok);clear hK aY HT cR HN HL;go_wp2_with fail;refine (ad D8).mono ?_;rintro e w3 ⟨xb,rs,rfl,hP,cQ⟩;have HP:=hide hP;have il:=hide ((ad eA).trans (cQ.mono (ad eA).size));have HA:=hide (kall w3 s xb _ rs hP (ad HK).two);clear hP cQ eA D8;go_wp2_with fail;refine (ad HA).mono ?_;intro e w4 bn;obtain⟨a1,c1,zs,sm,rfl,E1,sk,bP⟩:=bn.shape;have By:=hide sk;have HZ:=hide E1;have rS:=hide ((ad HP).below bP);have eC:=hide ((ad il).trans (bP.mono (ad il).size));clear bn E1 sk bP HA HP il;go_wp2_with fail;refine (kthings w4).mono ?_;rintro e w5 ⟨a5,c5,rfl,aF,eO⟩;have Ad:np w5 a5 c5 jo:=np.fy (by rw[thAll_len];exact aF);have IA:=Ad.cap;have BO:=Ad.max;rw[thAll_len] at IA;unfold maxLen at BO;have qK:=hide Ad;have Io:=hide ((ad HZ).below eO);have Hl:=hide ((ad rS).below eO);have iP:=hide ((ad eC).trans (eO.mono (ad eC).size));clear aF eO Ad HZ rS eC;go_wp2_with fail
 go_loopg [11] 10 (λ gg iv wr=>∃ i:Nat,i<=10/\gg=10-i/\iv=.int .i64 (i:Nat)/\Below w5.heap.size w5 wr)
 exact⟨0,by omega,rfl,rfl,Below.refl _ _⟩
 case round=>
  obtain⟨i,Je,Cv,rfl,jr⟩:=hrel;have kD:=hide jr;have Eg:=hide ((ad Hl).below jr);have Ip:=hide ((ad Io).below jr);have xd:=hide ((ad qK).below jr);have Ig:=hide ((ad HX).below ((ad iP).trans (jr.mono (ad iP).size)));have nY:=hide ((ad iP).trans (jr.mono (ad iP).size));clear jr
  by_cases ak:i<=nw
  ·have Cy:(i:Int)<=nw:=by omega
   by_cases bS:i<10
   ·have CR:(i:Int)<10:=(by omega);have HE:=hide (λ (q:B8) (hq:q.size<=2000000)=>pent_explain (ad Eg) q hq 50)
    have vn:=hide (show ∀ (q:B8) (t:Th),AskX s q t->∀ (e:Ending) (w6:W8),PEOut wr rs (aq s).2 q 50 (reaK (aq s).2 rs) w6 e->Below wr.heap.size wr w6->(e=ExpOver/\sm=false)\/(sm=true/\∃ (b:Bool) (hh:Nat) (a:O8) (c':Nat) (bs:List Nat),(decide ((0:Int)<(hh:Nat))=b)/\bs.length<=c'/\c'<=maxLen/\amongB q zs=b/\e=.returned (.tuple #[.agg #[.int .i64 ((if b then 1 else 2:Nat):Nat),.int .i64 (hh:Nat),.slice a bs.length c'],.int .i64 0])/\∀ W,Below w6.heap.size w6 W->Calls Tryz.prog 31 #[.string s,.string q,.slice a bs.length c'] W λ e' w'=>e'=.returned (.int .i64 ((if b then 1 else 2:Nat):Nat))/\Below W.heap.size W w') from λ q t hq e w6 ho eE=>by
     have tZ:=ad Eg;rcases explain_out (limit:=50) (by decide) (by decide) tZ.cE hq.qa ho with⟨S,m,hM,rfl⟩ | ⟨S,m,K,O,bs,a,c',hW,dC,rfl,aF⟩
     ·exact .inl ⟨rfl,told_over tZ.cE (ad By) hM⟩
     ·obtain⟨rfl,_⟩:=told_yes tZ.cE (ad By) hW.mod;have yG:=told_look (ad HK).two tZ.dg tZ.cE (ad By) hW.mod hq;have bl:=height_pos hW.mod t;have hB:=iJ.fy (hW.byte tZ (ad HK).lvl (by decide)) aF;refine .inr ⟨rfl,(ay K t).isSome,(ay K t).getD 0,a,c',bs,?_,hB.cap,hB.max,yG,rfl,λ W hk=>?_⟩
      ·rw[Bool.eq_iff_iff,decide_eq_true_eq,<-bl];omega
      ·refine (pcheck_any W s q (ad HK).sz hq.sz a c' bs (hB.below hk)).mono λ e' w' ⟨h1,h2⟩=>⟨?_,h2⟩
       exact wit_check tZ (by decide) hW hq.qa h1)
    have ve:=hide (λ (q:B8) (W:W8) (hk:Below wr.heap.size wr W)=>kamong W a1 c1 zs q ((ad Ip).below hk));have fk:=hide (λ (W:W8) (hk:Below wr.heap.size wr W)=>(ad kD).trans (hk.mono (ad kD).size))
    by_cases hw:i<nw
    ·have J4:(i:Int)<nw:=(by omega);obtain⟨g,off,rfl,hg,hc,hr⟩:=(ad Ig).el i hw;have hx:=(pickN_is (X i) (n:=64) (by decide)).1;have Hm:=hide (kpick wr (X i) 64 (by decide) (by decide) hr.1 hr.2);generalize ag (X i) 64=x at *;obtain⟨g5,rfl,dh,Cl⟩:=(ad xd).at_ x (by rw[thAll_len];exact hx);have hq:jo[x]'(by rw[thAll_len];exact hx)=fB (x/16) (x%16):=by
      have:=thAll_at hx;rw[List.getElem?_eq_getElem (by rw[thAll_len];exact hx)] at this;exact Option.some.inj this
     rw[hq] at Cl;have HQ:=hide (askX_th (ad HK).two x);generalize fB (x/16) (x%16)=q at *;generalize thX x=t at *;have J7:(x:Int)<64:=(by omega);clear hq hr;go_wp2_with fail;refine (ad Hm).mono ?_;rintro e w6 ⟨rfl,uV⟩;have uV:=uV.symm;subst uV;go_wp2_with fail;refine (ad HE q (ad HQ).sz).mono ?_;rintro e w6 ⟨ho,eE⟩;rcases ad vn _ _ (ad HQ) e w6 ho eE with⟨rfl,rfl⟩ | ⟨rfl,b,hh,a,c',bs,uq,Aj,qW,xT,rfl,yh⟩
     ·have qf:=hide (ad fk _ (eE.alloc eE.size (.cells #[.int .i64 0,.int .i64 0,.slice none 0 0] 49)));unfold ExpOver;clear ho eE vn fk ve HE;go_wp2_with fail;go_roundg (10-(i+1));exact⟨i+1,by omega,rfl,by go_num,ad qf⟩;omega
     ·unfold maxLen at qW;have mC:=(Below.refl w6.heap.size w6).alloc L9 (.cells #[.int .i64 ((if b then 1 else 2:Nat):Nat),.int .i64 (hh:Nat),.slice a bs.length c'] 49);have hY:=heap_alloc_new w6 (.cells #[.int .i64 ((if b then 1 else 2:Nat):Nat),.int .i64 (hh:Nat),.slice a bs.length c'] 49);have hsz:(w6.alloc (.cells #[.int .i64 ((if b then 1 else 2:Nat):Nat),.int .i64 (hh:Nat),.slice a bs.length c'] 49)).heap.size=w6.heap.size+1:=(by simp);have te:=hide (ad ve q _ (eE.trans (mC.mono eE.size)));have tn:=hide (yh _ mC)
      have lT:=hide (show ∀ w7,Below (w6.alloc (.cells #[.int .i64 ((if b then 1 else 2:Nat):Nat),.int .i64 (hh:Nat),.slice a bs.length c'] 49)).heap.size (w6.alloc (.cells #[.int .i64 ((if b then 1 else 2:Nat):Nat),.int .i64 (hh:Nat),.slice a bs.length c'] 49)) w7->Below w5.heap.size w5 w7/\w7.cell? ⟨w6.heap.size,0,none⟩=some (.int .i64 ((if b then 1 else 2:Nat):Nat))/\w7.cell? ⟨w6.heap.size,1,none⟩=some (.int .i64 (hh:Nat))/\w6.heap.size<w7.heap.size from λ w7 h7=>by
       have h8:=(h7.block w6.heap.size (by rw[hsz];omega)).trans hY;have h9:=h7.size;rw[hsz] at h9
       exact⟨ad fk _ (eE.trans ((mC.trans (h7.mono (by rw[hsz];omega))).mono eE.size)),by simp[World.cell?,h8],by simp[World.cell?,h8],by omega⟩)
      clear ho eE vn fk ve HE mC hY hsz yh;have tF:=hide (show decide (0<hh)=b by rw[<-uq];simp)
      cases b
      all_goals
       have IJ:=ad tF
       try simp only[if_true,Bool.false_eq_true,if_false] at te tn lT ⊢
       have HH:=hide xT;clear xT;go_wp2_with fail;refine (ad te).mono ?_;rintro e w7 ⟨rfl,Dr⟩;subst Dr;rw[ad HH];go_wp2_with fail;refine (ad tn).mono ?_;rintro e w7 ⟨rfl,mG⟩;obtain⟨yN,y0,y1,CQ⟩:=ad lT w7 mG;have Ba:=hide yN;clear mG lT tn te yN;generalize w6.heap.size=b6 at *;go_wp2_with fail;go_roundg (10-(i+1));exact⟨i+1,by omega,rfl,by go_num,ad Ba⟩;omega
    ·have J4:¬ (i:Int)<nw:=(by omega);have HQ:=hide (askX_owl (ad HK).two);go_wp2_with fail;refine (ad HE _ (ad HQ).sz).mono ?_;rintro e w6 ⟨ho,eE⟩;rcases ad vn _ _ (ad HQ) e w6 ho eE with⟨rfl,rfl⟩ | ⟨rfl,b,hh,a,c',bs,uq,Aj,qW,xT,rfl,yh⟩
     ·have qf:=hide (ad fk _ (eE.alloc eE.size (.cells #[.int .i64 0,.int .i64 0,.slice none 0 0] 49)));unfold ExpOver;clear ho eE vn fk ve HE;go_wp2_with fail;go_roundg (10-(i+1));exact⟨i+1,by omega,rfl,by go_num,ad qf⟩;omega
     ·unfold maxLen at qW;have mC:=(Below.refl w6.heap.size w6).alloc L9 (.cells #[.int .i64 ((if b then 1 else 2:Nat):Nat),.int .i64 (hh:Nat),.slice a bs.length c'] 49);have hY:=heap_alloc_new w6 (.cells #[.int .i64 ((if b then 1 else 2:Nat):Nat),.int .i64 (hh:Nat),.slice a bs.length c'] 49);have hsz:(w6.alloc (.cells #[.int .i64 ((if b then 1 else 2:Nat):Nat),.int .i64 (hh:Nat),.slice a bs.length c'] 49)).heap.size=w6.heap.size+1:=(by simp);have te:=hide (ad ve { data:=#[111,119,108] } _ (eE.trans (mC.mono eE.size)));have tn:=hide (yh _ mC)
      have lT:=hide (show ∀ w7,Below (w6.alloc (.cells #[.int .i64 ((if b then 1 else 2:Nat):Nat),.int .i64 (hh:Nat),.slice a bs.length c'] 49)).heap.size (w6.alloc (.cells #[.int .i64 ((if b then 1 else 2:Nat):Nat),.int .i64 (hh:Nat),.slice a bs.length c'] 49)) w7->Below w5.heap.size w5 w7/\w7.cell? ⟨w6.heap.size,0,none⟩=some (.int .i64 ((if b then 1 else 2:Nat):Nat))/\w7.cell? ⟨w6.heap.size,1,none⟩=some (.int .i64 (hh:Nat))/\w6.heap.size<w7.heap.size from λ w7 h7=>by
       have h8:=(h7.block w6.heap.size (by rw[hsz];omega)).trans hY;have h9:=h7.size;rw[hsz] at h9
       exact⟨ad fk _ (eE.trans ((mC.trans (h7.mono (by rw[hsz];omega))).mono eE.size)),by simp[World.cell?,h8],by simp[World.cell?,h8],by omega⟩)
      clear ho eE vn fk ve HE mC hY hsz yh;have tF:=hide (show decide (0<hh)=b by rw[<-uq];simp)
      cases b
      all_goals
       have IJ:=ad tF
       try simp only[if_true,Bool.false_eq_true,if_false] at te tn lT ⊢
       have HH:=hide xT;clear xT;go_wp2_with fail;refine (ad te).mono ?_;rintro e w7 ⟨rfl,Dr⟩;subst Dr;rw[ad HH];go_wp2_with fail;refine (ad tn).mono ?_;rintro e w7 ⟨rfl,mG⟩;obtain⟨yN,y0,y1,CQ⟩:=ad lT w7 mG;have Ba:=hide yN;clear mG lT tn te yN;generalize w6.heap.size=b6 at *;go_wp2_with fail;go_roundg (10-(i+1));exact⟨i+1,by omega,rfl,by go_num,ad Ba⟩;omega
   ·have CR:¬ (i:Int)<10:=(by omega);go_wp2_with fail;go_ret;exact⟨rfl,ad nY⟩
  ·have Cy:¬ (i:Int)<=nw:=(by omega);go_wp2_with fail;go_ret;exact⟨rfl,ad nY⟩
end
section
open Go.ChangeShapes Go.WideShapes Go.ChangeAt Go.RowKit Go.Deep
theorem cells2Line:Tryz.prog.cellsOf 44=4:=by kernel_rfl
variable {g off:Nat}
theorem addr_add (i:Nat):(⟨g,off,none⟩:Addr).add i=⟨g,off+i,none⟩:=by unfold Addr.add;split <;> simp_all
variable {p:List MemPlace} {len cap:Nat} {a0:O8} {W:W8} {H:Type}
theorem open_ints {enc:TypeId × Value->H}{d0:DataW H}(h0:DataW.Trod enc Tryz.prog W 0 (λ _=>true) true 24 (.slice a0 len cap) d0 p):len<=cap/\cap<=maxLen/\∃ X:Nat->Int,IntsIn W a0 len X:=by
 obtain⟨fuel,hf⟩:=h0;rcases open_slice1 Tryz.underlying24 cells2Int hf with⟨fi,_⟩ | ⟨a,DC,oO,m,n,V,D,Pl,fi,_,hl,hm,jB,hx,qX⟩
 ·simp[Value.cells] at fi;obtain⟨rfl,rfl,rfl⟩:=fi;exact⟨Nat.le_refl _,by unfold maxLen;omega,λ _=>0,⟨λ i hi=>by omega⟩⟩
 ·simp[Value.cells] at fi;obtain⟨rfl,rfl,rfl⟩:=fi;refine⟨hl,hm,?_⟩;have ed:len<=m:=by rw[jB];split <;> omega
  have each:∀ i,i<len->∃ k:Int,V i=.int .i64 k/\inR k:=λ i hi=>by
   obtain⟨k,e1,_,r⟩:=DataW.trod_int Tryz.underlying3 (qX i (by omega)).2;injection e1 with e1
   exact⟨k,e1,eK r⟩
  refine⟨λ i=>if h:i<len then Classical.choose (each i h) else 0,⟨λ i hi=>?_⟩⟩;have hc:=Classical.choose_spec (each i hi);obtain⟨g,off,sp⟩:=a;have Ax:sp=none:=by
   have:=World.cell?_spot (qX 0 (by omega)).1;simpa[Addr.add] using this
  subst Ax;have h1:=(qX i (by omega)).1;rw[addr_add] at h1;simp only[dif_pos hi];exact⟨g,off,rfl,World.block_lt_of_cell? W _ h1,h1.trans (congrArg some hc.1),hc.2⟩
theorem open_line {enc:TypeId × Value->H}{base n:Nat}{cs:V8}{x:DataW H × List MemPlace}{spare:Nat->Bool}{held:Bool}(hc:W.cells? base ⟨g,off,none⟩ 4=some cs)(ht:DataW.trod enc Tryz.prog W base spare held n 44 cs=some x):
  ∃ r:Raw,W.cell? ⟨g,off,none⟩=some (.int .i64 r.1)/\W.cell? ⟨g,off+1,none⟩=some (.int .i64 r.2.1)/\W.cell? ⟨g,off+2,none⟩=some (.int .i64 r.2.2.1)/\W.cell? ⟨g,off+3,none⟩=some (.int .i64 r.2.2.2)/\RawOk r:=by
 obtain⟨_,yD,dU⟩:=World.cells?_some hc;obtain⟨xs,m,_,hxe,hlen,zr,hf⟩:=DataW.trod_struct Tryz.underlying44 ht;obtain⟨c0,c1,c2,c3,rfl⟩:∃ c0 c1 c2 c3,cs=[c0,c1,c2,c3]:=by
  match cs,yD with
  | [c0,c1,c2,c3],_=>exact⟨c0,c1,c2,c3,rfl⟩
 obtain⟨y0,y1,y2,y3,rfl⟩:∃ y0 y1 y2 y3,xs=[y0,y1,y2,y3]:=by
  match xs,zr with
  | [y0,y1,y2,y3],_=>exact⟨y0,y1,y2,y3,rfl⟩
 have f0 := hf 0 { name := "Kind", type := 3, offset := 0, embedded := false, tag := "", pkgPath := "", byteOffset := 0 } rfl;have f1 := hf 1 { name := "A", type := 3, offset := 1, embedded := false, tag := "", pkgPath := "", byteOffset := 8 } rfl;have f2 := hf 2 { name := "B", type := 3, offset := 2, embedded := false, tag := "", pkgPath := "", byteOffset := 16 } rfl;have f3 := hf 3 { name := "C", type := 3, offset := 3, embedded := false, tag := "", pkgPath := "", byteOffset := 24 } rfl;simp only[cells2Int,List.drop_zero,List.drop_succ_cons,List.take_succ_cons,List.take_zero,List.getElem?_cons_zero,List.getElem?_cons_succ] at f0 f1 f2 f3;obtain⟨k0,e0,_,r0⟩:=DataW.trod_int Tryz.underlying3 f0;obtain⟨k1,e1,_,r1⟩:=DataW.trod_int Tryz.underlying3 f1;obtain⟨k2,e2,_,r2⟩:=DataW.trod_int Tryz.underlying3 f2;obtain⟨k3,e3,_,r3⟩:=DataW.trod_int Tryz.underlying3 f3;injection e0 with e0
 injection e1 with e1
 injection e2 with e2
 injection e3 with e3
 subst e0 e1 e2 e3;have d0:=dU 0 (by omega);have d1:=dU 1 (by omega);have d2:=dU 2 (by omega);have d3:=dU 3 (by omega);simp only[Addr.add,List.getElem?_cons_zero,List.getElem?_cons_succ] at d0 d1 d2 d3;exact⟨(k0,k1,k2,k3),by simpa using d0,by simpa using d1,by simpa using d2,by simpa using d3,⟨eK r0,eK r1,eK r2,eK r3⟩⟩
theorem open_lines {enc:TypeId × Value->H}{d0:DataW H}(h0:DataW.Trod enc Tryz.prog W 0 (λ _=>true) true 28 (.slice a0 len cap) d0 p):len<=cap/\cap<=maxLen/\∃ R:Nat->Raw,fC W a0 len R:=by
 obtain⟨fuel,hf⟩:=h0;rcases open_slice Tryz.underlying28 hf with⟨fi,_⟩ | ⟨a,DC,oO,m,n,D,Pl,fi,_,hl,hm,jB,hx,qX⟩
 ·simp[Value.cells] at fi;obtain⟨rfl,rfl,rfl⟩:=fi;exact⟨Nat.le_refl _,by unfold maxLen;omega,λ _=>(0,0,0,0),⟨λ i hi=>by omega⟩⟩
 ·simp[Value.cells] at fi;obtain⟨rfl,rfl,rfl⟩:=fi;refine⟨hl,hm,?_⟩;have ed:len<=m:=by rw[jB];split <;> omega
  obtain⟨g,off,sp⟩:=a;have Ax:0<len->sp=none:=λ h=>by
   obtain⟨BJ,hc,_⟩:=qX 0 (by omega);rw[cells2Line] at hc;obtain⟨_,yD,dU⟩:=World.cells?_some hc;obtain⟨c0,r,rfl⟩:∃ c0 r,BJ=c0::r:=by
    match BJ,yD with
    | c0::r,_=>exact⟨c0,r,rfl⟩
   have xx:=dU 0 (by omega);simpa[Addr.add] using World.cell?_spot xx
  have each:∀ i,i<len->∃ r:Raw,W.cell? ⟨g,off+i*4,none⟩=some (.int .i64 r.1)/\W.cell? ⟨g,off+i*4+1,none⟩=some (.int .i64 r.2.1)/\W.cell? ⟨g,off+i*4+2,none⟩=some (.int .i64 r.2.2.1)/\W.cell? ⟨g,off+i*4+3,none⟩=some (.int .i64 r.2.2.2)/\RawOk r:=by
   intro i hi;obtain⟨BJ,hc,ht⟩:=qX i (by omega);rw[cells2Line] at hc;have hs:=Ax (by omega);subst hs;rw[addr_add] at hc;exact open_line hc ht
  refine⟨λ i=>if h:i<len then Classical.choose (each i h) else (0,0,0,0),⟨λ i hi=>?_⟩⟩;have hc:=Classical.choose_spec (each i hi);have hs:=Ax (by omega);subst hs;simp only[dif_pos hi];exact⟨g,off,rfl,World.block_lt_of_cell? W _ hc.1,hc⟩
end
end Go.Proofs.YtldkpahaocjdpaaGreat
