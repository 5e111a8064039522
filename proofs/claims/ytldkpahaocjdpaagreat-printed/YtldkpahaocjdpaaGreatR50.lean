/-
  The law's plays, where only Loads are played: true at every script.
-/
import Derived.Test.YtldkpahaocjdpaaGreatR49
import Derived.Test.YtldkpahaocjdpaaGreatRows
import Derived.ProofKit
import Derived.SizedLaws
import Derived.ChangeSlices
import Derived.Deep.Slices
import Derived.Deep.Strs
import Derived.Deep.CondSized
import Derived.JoinedCond
set_option maxHeartbeats 16000000
set_option maxRecDepth 1000000
namespace Go.Proofs.YtldkpahaocjdpaaGreat
section
open Go.RowKit
def exText:B8:={ data:=#[101,100,103,101,40,97,44,98,41,46,32,101,100,103,101,40,98,44,99,41,46,32,112,97,116,104,40,88,44,89,41,32,58,45,32,101,100,103,101,40,88,44,89,41,46,32,112,97,116,104,40,88,44,90,41,32,58,45,32,101,100,103,101,40,88,44,89,41,44,32,112,97,116,104,40,89,44,90,41,46,32,102,97,114,40,88,41,32,58,45,32,112,97,116,104,40,97,44,88,41,44,32,110,111,116,32,101,100,103,101,40,97,44,88,41,46] }
theorem ex_size:exText.size<=maxLen:=by decide +kernel
end
section
def dupT:List Th->List Th
 | []=>[]
 | t::r=>if (r.any λ x=>decide (x=t)) then dupT r else t::dupT r
theorem dupT_mem {t:Th}:∀ l:List Th,t∈dupT l↔t∈l
 | []=>Iff.rfl
 | u::r=>by
  unfold dupT
  split
  ·rename_i h;obtain⟨x,hx,e⟩:=List.any_eq_true.1 h;have e:=of_decide_eq_true e;subst e;rw[dupT_mem r,List.mem_cons];exact⟨.inr,λ h'=>h'.elim (λ e=>by rw[e];exact hx) id⟩
  ·rw[List.mem_cons,List.mem_cons,dupT_mem r]
theorem dupT_nodup:∀ l:List Th,(dupT l).Nodup
 | []=>.nil
 | u::r=>by
  unfold dupT
  split
  ·exact dupT_nodup r
  ·rename_i h;exact List.nodup_cons.2 ⟨λ h'=>h (List.any_eq_true.2 ⟨u,(dupT_mem r).1 h',decide_eq_true rfl⟩),dupT_nodup r⟩
def newT (rs:List PR)(K:List (Th × Nat)):List Th:=dupT ((rs.flatMap λ r=>(pways K (negOf r.bs) (posOf r.bs) []).map λ e=>aB e (aO r)).filter λ t=>(ay K t).isNone)
theorem newT_mem {rs:List PR}{K:List (Th × Nat)}{t:Th}:t∈newT rs K↔NewB rs K t:=by
 unfold newT NewB;rw[dupT_mem,List.mem_filter,List.mem_flatMap]
 constructor
 ·rintro⟨⟨r,hr,h⟩,hn⟩;obtain⟨e,he,hf⟩:=List.mem_map.1 h;exact⟨Option.isNone_iff_eq_none.1 hn,r,hr,e,he,hf⟩
 ·rintro⟨hn,r,hr,e,he,hf⟩;exact⟨⟨r,hr,List.mem_map.2 ⟨e,he,hf⟩⟩,Option.isNone_iff_eq_none.2 hn⟩
theorem newT_nodup (rs:List PR)(K:List (Th × Nat)):(newT rs K).Nodup:=dupT_nodup _
def climbF (rs:List PR)(limit:Nat):Nat->Nat->List (Th × Nat)->Option (List (Th × Nat))
 | 0,_,_=>none
 | f+1,h,K=>if (newT rs K).isEmpty then some K else if K.length+(newT rs K).length<=limit then climbF rs limit f (h+1) (K++(newT rs K).map λ t=>(t,h)) else none
theorem climbF_ok {rs:List PR}{limit:Nat}:∀ (f h:Nat) (K K':List (Th × Nat)),climbF rs limit f h K=some K'->PClimb rs limit h K (some K')
 | 0,_,_,_,e=>by cases e
 | f+1,h,K,K',e=>by
  unfold climbF at e
  split at e
  ·rename_i h0;obtain rfl:=Option.some.inj e;exact .done λ t ht=>by
    have:=newT_mem.2 ht;rw[List.isEmpty_iff.1 h0] at this
    cases this
  ·rename_i h0
   split at e
   ·rename_i hl;refine .more (L:=(newT rs K).map λ t=>(t,h)) (λ e=>h0 (by rw[List.map_eq_nil_iff.1 e];rfl)) ?_ (λ p hp=>?_) (λ t=>?_) (by rw[List.length_map];exact hl) (climbF_ok f _ _ _ e)
    ·rw[List.map_map];have:((λ x:Th × Nat=>x.1) ∘ λ t=>(t,h))=id:=rfl;rw[this,List.map_id];exact newT_nodup rs K
    ·obtain⟨_,_,rfl⟩:=List.mem_map.1 hp;rfl
    ·rw[<-newT_mem]
     constructor
     ·rintro⟨n,hn⟩;obtain⟨u,hu,e⟩:=List.mem_map.1 hn;rw[<-(Prod.mk.inj e).1];exact hu
     ·intro ht;exact⟨h,List.mem_map.2 ⟨t,ht,rfl⟩⟩
   ·cases e
def stratF (rs:List PR)(S:B8->Nat)(limit:Nat):Nat->Nat->List (Th × Nat)->Option (List (Th × Nat))
 | 0,_,K=>some K
 | f+1,s,K=>(climbF (rs.filter (bI S s)) limit 60 1 K).bind (stratF rs S limit f (s+1))
theorem stratF_ok {rs:List PR}{S:B8->Nat}{limit:Nat}(count:Nat):∀ (f s:Nat) (K K':List (Th × Nat)),s+f=count->stratF rs S limit f s K=some K'->PStrat rs S limit count s K (some K')
 | 0,s,K,K',hs,e=>by obtain rfl:=Option.some.inj e;exact .ends (by omega)
 | f+1,s,K,K',hs,e=>by
  unfold stratF at e;obtain⟨K1,h1,h2⟩:=Option.bind_eq_some_iff.1 e;exact .next (by omega) (climbF_ok 60 1 K K1 h1) (stratF_ok count f (s+1) K1 K' (by omega) h2)
def gB:B8:={ data:=#[102,97,114] }
def edgB:B8:={ data:=#[101,100,103,101] }
def patB:B8:={ data:=#[112,97,116,104] }
def rW (k:B8):Nat:=if k=gB then 1 else 0
def exR:List PR:=(pparsed exText).2.2.1.map λ R=>⟨R,undef,R.body.map λ l=>(l,undef),undef⟩
def exK:List (Th × Nat):=[((edgB,[one8 97,one8 98]),1),((edgB,[one8 98,one8 99]),1),((patB,[one8 97,one8 98]),2),((patB,[one8 98,one8 99]),2),((patB,[one8 97,one8 99]),3),((gB,[one8 99]),1)]
theorem ex_load:refLoad exText=(true,0,0):=by decide +kernel
theorem ex_strat:stratF exR rW 10 2 0 []=some exK:=by decide +kernel
end
section
open Go.RowKit Go.Maps
theorem sortT_eq {zs:List B8}{L:List (List UInt8)}(h:(zs.map λ s=>s.data.toList).Perm L)(hs:L.Pairwise λ a b=>a<=b):sortT zs=L:=by
 have h1:(sortT zs).Pairwise λ a b=>a<=b:=by
  have:=List.pairwise_mergeSort (le:=λ x y:List UInt8=>decide (x<=y)) (λ a b c h1 h2=>by
   simp only[decide_eq_true_eq] at *
   exact List.le_trans h1 h2) (λ a b=>by
   simp only[Bool.or_eq_true,decide_eq_true_eq]
   exact List.le_total a b) (zs.map λ s=>s.data.toList)
  exact this.imp λ h=>by simpa using h
 exact List.Perm.eq_of_pairwise (le:=λ a b=>a<=b) (λ a b _ _ h1 h2=>List.le_antisymm h1 h2) h1 hs ((List.mergeSort_perm _ _).trans h)
theorem kO:∀ R∈(pparsed exText).2.2.1,∀ l∈R.body,(rW l.pd+if l.neg then 1 else 0)<=rW R.pd:=by decide +kernel
theorem ex_far:∃ R∈(pparsed exText).2.2.1,R.pd=gB/\∃ l∈R.body,l.neg=true:=by decide +kernel
theorem tU:(numOf (aj exText).2 gB).isSome=true:=by decide +kernel
theorem nq:exR.map (·.R)=(pparsed exText).2.2.1:=by
 unfold exR;rw[List.map_map];exact List.map_id _
theorem lS:∀ r∈exR,r.bs.map (·.1)=r.R.body:=λ r hr=>by
 obtain⟨R,_,rfl⟩:=List.mem_map.1 hr
 show (R.body.map λ l=>(l,undef)).map (·.1)=R.body
 rw[List.map_map];exact List.map_id _
variable {rs:List PR}
theorem ex_mod (hr:rs.map (·.R)=(pparsed exText).2.2.1)(hb:∀ r∈rs,r.bs.map (·.1)=r.R.body):Mod exText rs 10 rW 2 (some exK):=by
 refine⟨λ R hR=>by rw[hr] at hR;exact kO R hR,λ f hf k=>?_,⟨λ k _=>?_,.inr ⟨gB,tU,rfl⟩⟩,?_⟩
 ·unfold rW
  split
  ·rename_i e;subst e;obtain⟨R,hR,hp,l,hl,hn⟩:=ex_far;have:=hf R (by rw[hr];exact hR) l hl;rw[hn,if_pos rfl,hp] at this;omega
  ·omega
 ·unfold rW;split <;> omega
 ·exact fm ⟨λ R=>by rw[nq,hr],lS,hb⟩ (stratF_ok 2 2 0 [] exK rfl ex_strat)
theorem ex_lvl:Lvl exText:=⟨rW,kO,λ k=>by unfold rW;split <;> omega⟩
def exQ:B8:={ data:=#[112,97,116,104,40,97,44,88,41] }
def exC:B8:={ data:=#[102,97,114,40,99,41] }
def exB:B8:={ data:=#[102,97,114,40,98,41] }
def exAB:B8:={ data:=#[112,97,116,104,40,97,44,98,41] }
def exAC:B8:={ data:=#[112,97,116,104,40,97,44,99,41] }
def exA:PAtm:=⟨patB,[(false,one8 97),(true,one8 88)]⟩
theorem ex_thC:thingS (aj exText).2 exC=some (gB,[one8 99]):=by decide +kernel
theorem ex_thB:thingS (aj exText).2 exB=some (gB,[one8 98]):=by decide +kernel
theorem ex_askM:(askedS (aj exText).2 exQ).map (λ A=>(A.p,A.ts))=some (patB,[(false,one8 97),(true,one8 88)]):=by decide +kernel
theorem ex_ask:askedS (aj exText).2 exQ=some exA:=by
 have h:=ex_askM
 cases e:askedS (aj exText).2 exQ with
 | none=>rw[e] at h;cases h
 | some A=>
  rw[e] at h;obtain⟨p,ts⟩:=A;have h:(p,ts)=(patB,[(false,one8 97),(true,one8 88)]):=Option.some.inj h;obtain⟨rfl,rfl⟩:=Prod.mk.inj h;rfl
theorem ex_hit:((exK.filter (hitB exA)).map λ p=>thText p.1)=[exAB,exAC]:=by decide +kernel
theorem ex_is (hr:rs.map (·.R)=(pparsed exText).2.2.1)(hb:∀ r∈rs,r.bs.map (·.1)=r.R.body){S:B8->Nat}{m:Nat}{r:Option (List (Th × Nat))}(h:Mod exText rs 10 S m r):∃ K,r=some K/\exK.Perm K:=by
 obtain⟨_,_,⟨e,_⟩ | ⟨A,B,e1,e2,h3,_⟩⟩:=(ex_mod hr hb).uniq hb h
 ·cases e
 ·obtain rfl:=Option.some.inj e1;exact⟨B,e2,h3⟩
variable {e:Ending} {w w':W8}
theorem ex_query (hr:rs.map (·.R)=(pparsed exText).2.2.1)(hb:∀ r∈rs,r.bs.map (·.1)=r.R.body)(h:PQOut w rs (aj exText).2 exQ 10 w' e):∃ g c,e=.returned (.tuple #[.slice (some ⟨g,0,none⟩) 2 c,.int .i64 0])/\2<=c/\c<=maxLen/\g<w'.heap.size/\w'.cell? ⟨g,0,none⟩=some (.string exAB)/\w'.cell? ⟨g,1,none⟩=some (.string exAC):=by
 cases h with
 | arg h=>exact absurd h (by decide)
 | ask _ h=>rw[ex_ask] at h;cases h
 | fk _ _ hv fN hc dj=>obtain⟨K,e,_⟩:=ex_is hr hb ⟨hv,fN,hc,dj⟩;cases e
 | @yes A S m K zs a c _ hA hv fN hc dj dB hp aE=>
  rw[ex_ask] at hA;obtain rfl:=Option.some.inj hA;obtain⟨K',e,hK⟩:=ex_is hr hb ⟨hv,fN,hc,dj⟩;obtain rfl:=Option.some.inj e;have hz:zs.Perm [exAB,exAC]:=by
   have:=hp.trans ((hK.symm.filter (hitB exA)).map λ p=>thText p.1)
   rwa [ex_hit] at this
  have vV:zs.length=2:=hz.length_eq;have jS:sortT zs=[exAB.data.toList,exAC.data.toList]:=sortT_eq (hz.map _) (by decide);rw[vV,jS] at aE;have hT:=qd.ib (zs:=[exAB,exAC]) aE;obtain⟨g,rfl,hg,h0⟩:=hT.at_ 0 (by simp);obtain⟨g',e',_,h1⟩:=hT.at_ 1 (by simp);obtain rfl:g=g':=by simpa using e'
  exact⟨g,c,by rw[vV],hT.cap,hT.max,hg,h0,h1⟩
theorem ex_look {K:List (Th × Nat)}(h:exK.Perm K):(ay K (gB,[one8 99])).isSome=true/\(ay K (gB,[one8 98])).isSome=false:=by
 have hm:∀ t,t∈K.map (·.1)↔t∈exK.map (·.1):=λ t=>(h.map _).mem_iff.symm
 constructor
 ·exact look_keys.2 ((hm _).2 (List.mem_map.2 ⟨((gB,[one8 99]),1),by simp[exK],rfl⟩))
 ·cases hx:(ay K (gB,[one8 98])).isSome with
  | false=>rfl
  | true=>
   exfalso
   have h1:=(hm _).1 (look_keys.1 hx);obtain⟨y,hy,he⟩:=List.mem_map.1 h1;have:∀ y∈exK,y.1≠(gB,[one8 98]):=by decide
   exact this y hy he
theorem ex_explain {xb lo:Nat}{w0:W8}(hP:dt exText xb w0 lo rs){q:B8}{t:Th}(ht:thingS (aj exText).2 q=some t)(h:PEOut w rs (aj exText).2 q 10 (reaK (aj exText).2 rs) w' e):∃ S m K O bs a c,kL exText rs 10 S m K t O bs/\exK.Perm K/\e=.returned (.tuple #[.agg #[.int .i64 ((if (ay K t).isSome then 1 else 2:Nat):Nat),.int .i64 (((ay K t).getD 0:Nat):Int),.slice a bs.length c],.int .i64 0])/\iP w' a c bs:=by
 rcases explain_out (limit:=10) (by decide) (by decide) hP.cg ht h with⟨S,m,hM,_⟩ | ⟨S,m,K,O,bs,a,c,hW,dB,he,aE⟩
 ·obtain⟨K,e,_⟩:=ex_is hP.rules hP.cg hM;cases e
 ·obtain⟨K',e,hK⟩:=ex_is hP.rules hP.cg hW.mod;obtain rfl:=Option.some.inj e;exact⟨S,m,K,O,bs,a,c,hW,hK,he,iP.ib (hW.byte hP ex_lvl (by decide)) aE⟩
end
section
open Go.RowKit Go.Maps
theorem wit_check {s:B8}{rs:List PR}{xb lo:Nat}{w0:W8}(hP:dt s xb w0 lo rs){limit:Nat}(hl:limit<=50){S:B8->Nat}{m:Nat}{K:List (Th × Nat)}{t:Th}{O:List Pl}{bs:List Nat}(hW:kL s rs limit S m K t O bs){q:B8}(ht:thingS (aj s).2 q=some t){e:Ending}(hE:PChkE s q bs e):e=.returned (.int .i64 ((if (ay K t).isSome then 1 else 2:Nat):Nat)):=by
 have he:=hW.eq;subst he;exact chk_proved hP hl hW.mod hW.len ht hW.perm hW.sort hE
theorem kknown (w:W8):Calls Tryz.prog 16 #[] w λ e w'=>e=.returned (.bool true)/\Below w.heap.size w w':=by
 have HL:=hide (kload w exText ex_size ex_load);go_enter Tryz.func16,Tryz.ntmps16;go_wp2_with fail;refine (ad HL).mono ?_;rintro e w1 ⟨xb,rs,rfl,hP,aT⟩;clear HL;have HP:=hide hP;have cR:=hide aT;have HQ:=hide (pent_query hP exQ (by decide) 10);clear hP aT;go_wp2_with fail;refine (ad HQ).mono ?_;rintro e w2 ⟨ho,aU⟩;obtain⟨g,c,rfl,nA,dx,hg,h0,h1⟩:=ex_query (ad HP).rules (ad HP).cg ho;have iT:=hide ((ad HP).below aU);have ep:=hide ((ad cR).trans (aU.mono (ad cR).size));have HG:=hide (And.intro hg (And.intro h0 h1));have tn:=hide (pent_explain (ad iT) exC (by decide) 10);unfold maxLen at dx;clear ho aU HQ h0 h1 hg HP cR;go_wp2_with fail;refine (ad tn).mono ?_;rintro e w3 ⟨ho,cE⟩;obtain⟨S,m,K,O,bs,a,c3,hW,hK,rfl,iD⟩:=ex_explain (ad iT) ex_thC ho;have nX:=hide ((ad iT).below cE);have gh:=hide ((ad ep).trans (cE.mono (ad ep).size));have yD:g<w3.heap.size:=Nat.lt_of_lt_of_le (ad HG).1 cE.size;have vp:=hide (And.intro yD (And.intro ((cE.cell (p:=⟨g,0,none⟩) (ad HG).1).trans (ad HG).2.1) ((cE.cell (p:=⟨g,1,none⟩) (ad HG).1).trans (ad HG).2.2)));have HW:=hide (And.intro hW hK);have kr:=hide iD;rw[if_pos (ex_look hK).1];generalize (ay K (gB,[one8 99])).getD 0=hh;have ja:bs.length<=c3:=iD.cap;have oi:c3<=maxLen:=iD.max;have vn:=hide (λ (W:W8) (hk:Below w3.heap.size w3 W)=>pent_explain ((ad nX).below hk) exB (by decide) 10);have xK:=(Below.refl w3.heap.size w3).alloc L9 (.cells #[.int .i64 ((1:Nat):Int),.int .i64 (hh:Nat),.slice a bs.length c3] 49);have qu:=hide xK;have hY:=heap_alloc_new w3 (.cells #[.int .i64 ((1:Nat):Int),.int .i64 (hh:Nat),.slice a bs.length c3] 49);have HY:=hide hY;have uR:(w3.alloc (.cells #[.int .i64 ((1:Nat):Int),.int .i64 (hh:Nat),.slice a bs.length c3] 49)).heap.size=w3.heap.size+1:=by simp
 have qH:=hide uR;unfold maxLen at oi;clear ho cE tn hW hK iD iT ep HG xK hY uR yD;go_wp2_with fail;refine (ad vn _ (ad qu)).mono ?_;rintro e w4 ⟨ho,bQ⟩;obtain⟨S4,m4,K4,O4,vB,a4,c4,Fg,B4,rfl,qU⟩:=ex_explain ((ad nX).below (ad qu)) ex_thB ho;have Co:=bQ.size;rw[ad qH] at Co;have AJ:=(bQ.block w3.heap.size (by rw[ad qH];omega)).trans (ad HY);have y0:w4.cell? ⟨w3.heap.size,0,none⟩=some (.int .i64 ((1:Nat):Int)):=by simp[World.cell?,AJ]
 have y2:w4.cell? ⟨w3.heap.size,2,none⟩=some (.slice a bs.length c3):=by simp[World.cell?,AJ]
 have lU:=(ad qu).trans (bQ.mono (by rw[ad qH];omega));have wY:=hide ((ad nX).below lU);have eC:=hide ((ad gh).trans (lU.mono (ad gh).size));have Jk:g<w4.heap.size:=Nat.lt_of_lt_of_le (ad vp).1 lU.size;have g0:w4.cell? ⟨g,0,none⟩=some (.string exAB):=(lU.cell (p:=⟨g,0,none⟩) (ad vp).1).trans (ad vp).2.1;have g1:w4.cell? ⟨g,1,none⟩=some (.string exAC):=(lU.cell (p:=⟨g,1,none⟩) (ad vp).1).trans (ad vp).2.2;unfold exAB at g0;unfold exAC at g1;have Ez:=hide (And.intro Fg B4);have iD:=(ad kr).below lU;rw[(ex_look B4).2,if_neg (by simp)];generalize (ay K4 (gB,[one8 98])).getD 0=vI;have I9:vB.length<=c4:=qU.cap;have Ct:c4<=maxLen:=qU.max;have xL:=(Below.refl w4.heap.size w4).alloc L9 (.cells #[.int .i64 ((2:Nat):Int),.int .i64 (vI:Nat),.slice a4 vB.length c4] 49);have tg:=hide xL;have vl:=hide (λ (W:W8) (hk:Below w4.heap.size w4 W)=>pcheck_any W exText exC ex_size (by decide) a c3 bs (iD.below hk));have ks:=hide (λ (W:W8) (hk:Below w4.heap.size w4 W)=>pcheck_any W exText exB ex_size (by decide) a4 c4 vB (qU.below hk));have vm:=hide (λ (W:W8) (hk:Below w4.heap.size w4 W)=>pcheck_any W exText exB ex_size (by decide) a c3 bs (iD.below hk));have hZ:=heap_alloc_new w4 (.cells #[.int .i64 ((2:Nat):Int),.int .i64 (vI:Nat),.slice a4 vB.length c4] 49);have HZ:=hide hZ;have IA:=hide AJ;have uS:(w4.alloc (.cells #[.int .i64 ((2:Nat):Int),.int .i64 (vI:Nat),.slice a4 vB.length c4] 49)).heap.size=w4.heap.size+1:=by simp
 have qI:=hide uS;unfold maxLen at Ct;clear ho bQ vn Fg B4 iD qU nX gh qu HY qH vp xL hZ AJ lU uS kr;have yN:w3.heap.size<w4.heap.size:=by omega
 generalize w3.heap.size=b3 at *;go_wp2_with fail;refine (ad vl _ (ad tg)).mono ?_;rintro e w5 ⟨ho,eO⟩;have he:=wit_check (ad wY) (by decide) (ad HW).1 ex_thC ho;rw[if_pos (ex_look (ad HW).2).1] at he;subst he;have Cp:=eO.size;rw[ad qI] at Cp;have z5:=(eO.block w4.heap.size (by rw[ad qI];omega)).trans (ad HZ);have ny:=(ad tg).trans (eO.mono (by rw[ad qI];omega));have jn:=hide ((ad eC).trans (ny.mono (ad eC).size));have y5:w5.cell? ⟨b3,2,none⟩=some (.slice a bs.length c3):=(ny.cell (p:=⟨b3,2,none⟩) yN).trans y2;have u6:w5.cell? ⟨w4.heap.size,2,none⟩=some (.slice a4 vB.length c4):=by simp[World.cell?,z5]
 have yO:w4.heap.size<w5.heap.size:=by omega
 have wu:=hide (ad ks w5 ny);have wv:=hide (λ (W:W8) (hk:Below w5.heap.size w5 W)=>ad vm W (ny.trans (hk.mono ny.size)));clear ho eO vl ks vm eC tg HZ qI ny z5 y0 y2 g0 g1 Jk IA;generalize w4.heap.size=b4 at *;go_wp2_with fail;refine (ad wu).mono ?_;rintro e w6 ⟨ho,iA⟩;have he:=wit_check (ad wY) (by decide) (ad Ez).1 ex_thB ho;rw[(ex_look (ad Ez).2).2,if_neg (by simp)] at he;subst he;have y6:w6.cell? ⟨b3,2,none⟩=some (.slice a bs.length c3):=(iA.cell (p:=⟨b3,2,none⟩) (by show b3<_;omega)).trans y5;have mU:=hide ((ad jn).trans (iA.mono (ad jn).size));have wy:=hide (ad wv w6 iA);clear ho iA wu wv y5 u6 jn;go_wp2_with fail;refine (ad wy).mono ?_;rintro e w7 ⟨ho,mB⟩;have zP:=hide ((ad mU).trans (mB.mono (ad mU).size));obtain⟨v,he,Kc,uW,_⟩:=chk_sound (ad wY) (ad HW).1.mod ex_thB ho;have bG:¬ v=1:=λ h=>by
  have:=look_keys.2 (uW h);rw[(ex_look (ad HW).2).2] at this
  cases this
 have hv:v=2\/v=3:=by omega
 clear ho mB Kc uW bG y6 mU;subst he;rcases hv with rfl | rfl
 all_goals
  go_wp2_with fail;go_ret;exact⟨rfl,ad zP⟩
end
section
theorem look_perm {K K':List (Th × Nat)}(h:K.Perm K')(t:Th):(ay K t).isSome=(ay K' t).isSome:=by
 rw[Bool.eq_iff_iff,look_keys,look_keys];exact (h.map _).mem_iff
theorem thAll_at {x:Nat}(h:x<64):my[x]?=some (jX (x/16) (x%16)):=by
 have:∀ x:Nat,x<64->my[x]?=some (jX (x/16) (x%16)):=by decide
 exact this x h
theorem thAll_len:my.length=64:=by unfold my;rw[thUpto_len]
def thX (x:Nat):Th:=thK (x/16) (x%16/4) (x%16%4)
theorem thX_text (x:Nat):thText (thX x)=jX (x/16) (x%16):=thText_K _ _
theorem thX_thing {ps:P9}(h:TwoP ps)(x:Nat):thingS ps (jX (x/16) (x%16))=some (thX x):=thing_K h _ _
theorem thTx_size (p i:Nat):(jX p i).size<=2000000:=by unfold jX;rw[txt8_size];simp
end
section
open Go.RowKit Go.Maps
structure IntsIn (w:W8)(a:O8)(n:Nat)(X:Nat->Int):Prop where
 el:∀ i,i<n->∃ g off,a=some ⟨g,off,none⟩/\g<w.heap.size/\w.cell? ⟨g,off+i,none⟩=some (.int .i64 (X i))/\inR (X i)
structure TextK (s:B8):Prop where
 ok:refLoad s=(true,0,0)
 sz:s.size<=maxLen
 two:TwoP (aj s).2
 lvl:Lvl s
theorem textK_of (R:Nat->Raw){n:Nat}(hn:n<=14):TextK (bk (cw (λ i=>bf (R i)) n)):=by
 have hL:∀ i,i<n->(bf (R i)).Ok:=λ i _=>lineOf_ok _ _ _ _
 refine⟨(textK_ok _ n hn hL).1,?_,two_text hn hL,lvl_text hn hL⟩;have:=textB_len (λ i=>bf (R i)) n;rw[txt8_size];unfold maxLen;omega
structure AskX (s q:B8)(t:Th):Prop where
 sZ:thingS (aj s).2 q=some t
 text:q=thText t
 sz:q.size<=2000000
theorem askX_th {s:B8}(h:TwoP (aj s).2)(x:Nat):AskX s (jX (x/16) (x%16)) (thX x):=⟨thX_thing h x,(thX_text x).symm,thTx_size _ _⟩
end
section
open Go.RowKit Go.Maps
variable {s s':B8}
theorem preds_sub (h:(refLoad s).1=true)(h':(refLoad s').1=true)(hR:∀ R,R∈(pparsed s).2.2.1->R∈(pparsed s').2.2.1)(k:B8):(numOf (aj s).2 k).isSome=true->(numOf (aj s').2 k).isSome=true:=λ hk=>by
 have g:=good_of h;have g':=good_of h';obtain⟨n,hn⟩:=Option.isSome_iff_exists.1 hk;rw[<-g.met] at hn;rcases num_meet _ _ _ _ hn with e | e
 ·cases e
 ·obtain⟨R,xS,hx⟩:=List.mem_flatMap.1 e;obtain⟨n1,n2⟩:=g'.named R (hR R xS);unfold aZ at hx;rcases List.mem_cons.1 hx with e | e
  ·obtain⟨m,hm⟩:=n1;have e1:k=R.pd:=congrArg Prod.fst e;rw[e1,hm];rfl
  ·obtain⟨l,hl,e⟩:=List.mem_map.1 e;obtain⟨m,hm⟩:=n2 l hl;have e1:l.pd=k:=congrArg Prod.fst e;rw[<-e1,hm];rfl
variable {m:Nat} {S:B8->Nat}
theorem count_same {ps AQ:P9}(h:∀ k,(numOf ps k).isSome=true↔(numOf AQ k).isSome=true)(hc:IsCount ps S m):IsCount AQ S m:=
 ⟨λ k hk=>hc.1 k ((h k).2 hk),hc.2.imp id λ ⟨k,hk,e⟩=>⟨k,(h k).1 hk,e⟩⟩
theorem Mod.two {xb DT:Nat}{w w':W8}{lo DH:Nat}{rs qq:List PR}(hP:dt s xb w lo rs)(og:dt s' DT w' DH qq)(hR:∀ R,R∈(pparsed s).2.2.1↔R∈(pparsed s').2.2.1){limit:Nat}{S':B8->Nat}{m':Nat}{r r':Option (List (Th × Nat))}(h:Mod s rs limit S m r)(h':Mod s' qq limit S' m' r'):(r=none/\r'=none)\/∃ K K',r=some K/\r'=some K'/\K.Perm K'/\K.length<=limit:=by
 have hm:∀ R,R∈rs.map (·.R)↔R∈qq.map (·.R):=λ R=>by rw[hP.rules,og.rules];exact hR R
 have jg:bg rs qq:=⟨hm,hP.cg,og.cg⟩;obtain rfl:=low_uniq hm h.valid h.low h'.valid h'.low;have gj:∀ k,(numOf (aj s).2 k).isSome=true↔(numOf (aj s').2 k).isSome=true:=λ k=>⟨preds_sub hP.ok og.ok (λ R=>(hR R).1) k,preds_sub og.ok hP.ok (λ R=>(hR R).2) k⟩
 obtain rfl:=count_uniq (count_same gj h.count) h'.count;exact strat_det jg h.gJ (List.Perm.refl _) (Nat.zero_le _) h'.gJ
theorem look_same {K K':List (Th × Nat)}(h:K.Perm K')(hn:(K.map (·.1)).Nodup)(t:Th):ay K t=ay K' t:=by
 have qk:(K'.map (·.1)).Nodup:=(h.map _).nodup_iff.1 hn
 cases hk:ay K t with
 | none=>
  cases sl:ay K' t with
  | none=>rfl
  | some n=>
   have:=look_perm h t;rw[hk,sl] at this;cases this
 | some n=>exact (lookN_of qk (h.mem_iff.1 (bp hk))).symm
end
section
open Go.RowKit Go.Maps
def TruePost (w:W8)(e:Ending)(w':W8):Prop:=e=.returned (.bool true)/\Below w.heap.size w w'
end
section
open Go.ChangeShapes Go.WideShapes Go.ChangeAt Go.RowKit Go.Deep
theorem own2:ownKnob Tryz.prog.godebug=none:=by kernel_rfl
theorem laid2:laidOutB Tryz.prog=true:=by kernel_rfl
theorem cells2Int:Tryz.prog.cellsOf 3=1:=by kernel_rfl
theorem dR {n:Int}(h:(Lit.int .i64 n).wf=true):-9223372036854775808<=n/\n<=9223372036854775807:=by
 simpa[Lit.wf,IntKind.min,IntKind.max,IntKind.signed,IntKind.bits] using h
end
section
open Go.ChangeShapes Go.WideShapes Go.ChangeAt Go.RowKit Go.Deep
theorem cells2Line:Tryz.prog.cellsOf 44=4:=by kernel_rfl
variable {g off:Nat}
theorem addr_add (i:Nat):(⟨g,off,none⟩:Addr).add i=⟨g,off+i,none⟩:=by unfold Addr.add;split <;> simp_all
variable {p:List MemPlace} {len cap:Nat} {a0:O8} {W:W8} {H:Type}
theorem open_ints {enc:TypeId × Value->H}{d0:DataW H}(h0:DataW.Trod enc Tryz.prog W 0 (λ _=>true) true 24 (.slice a0 len cap) d0 p):len<=cap/\cap<=maxLen/\∃ X:Nat->Int,IntsIn W a0 len X:=by
 obtain⟨fuel,hf⟩:=h0;rcases open_slice1 Tryz.underlying24 cells2Int hf with⟨eZ,_⟩ | ⟨a,DF,oI,m,n,V,D,Pl,eZ,_,hl,hm,jA,hx,qV⟩
 ·simp[Value.cells] at eZ;obtain⟨rfl,rfl,rfl⟩:=eZ;exact⟨Nat.le_refl _,by unfold maxLen;omega,λ _=>0,⟨λ i hi=>by omega⟩⟩
 ·simp[Value.cells] at eZ;obtain⟨rfl,rfl,rfl⟩:=eZ;refine⟨hl,hm,?_⟩;have ed:len<=m:=by rw[jA];split <;> omega
  have each:∀ i,i<len->∃ k:Int,V i=.int .i64 k/\inR k:=λ i hi=>by
   obtain⟨k,e1,_,r⟩:=DataW.trod_int Tryz.underlying3 (qV i (by omega)).2;injection e1 with e1
   exact⟨k,e1,dR r⟩
  refine⟨λ i=>if h:i<len then Classical.choose (each i h) else 0,⟨λ i hi=>?_⟩⟩;have hc:=Classical.choose_spec (each i hi);obtain⟨g,off,sp⟩:=a;have AG:sp=none:=by
   have:=World.cell?_spot (qV 0 (by omega)).1;simpa[Addr.add] using this
  subst AG;have h1:=(qV i (by omega)).1;rw[addr_add] at h1;simp only[dif_pos hi];exact⟨g,off,rfl,World.block_lt_of_cell? W _ h1,h1.trans (congrArg some hc.1),hc.2⟩
theorem open_line {enc:TypeId × Value->H}{base n:Nat}{cs:V8}{x:DataW H × List MemPlace}{spare:Nat->Bool}{held:Bool}(hc:W.cells? base ⟨g,off,none⟩ 4=some cs)(ht:DataW.trod enc Tryz.prog W base spare held n 44 cs=some x):
  ∃ r:Raw,W.cell? ⟨g,off,none⟩=some (.int .i64 r.1)/\W.cell? ⟨g,off+1,none⟩=some (.int .i64 r.2.1)/\W.cell? ⟨g,off+2,none⟩=some (.int .i64 r.2.2.1)/\W.cell? ⟨g,off+3,none⟩=some (.int .i64 r.2.2.2)/\RawOk r:=by
 obtain⟨_,yK,dV⟩:=World.cells?_some hc;obtain⟨xs,m,_,hxe,hlen,zz,hf⟩:=DataW.trod_struct Tryz.underlying44 ht;obtain⟨c0,c1,c2,c3,rfl⟩:∃ c0 c1 c2 c3,cs=[c0,c1,c2,c3]:=by
  match cs,yK with
  | [c0,c1,c2,c3],_=>exact⟨c0,c1,c2,c3,rfl⟩
 obtain⟨y0,y1,y2,y3,rfl⟩:∃ y0 y1 y2 y3,xs=[y0,y1,y2,y3]:=by
  match xs,zz with
  | [y0,y1,y2,y3],_=>exact⟨y0,y1,y2,y3,rfl⟩
 have f0 := hf 0 { name := "Kind", type := 3, offset := 0, embedded := false, tag := "", pkgPath := "", byteOffset := 0 } rfl;have f1 := hf 1 { name := "A", type := 3, offset := 1, embedded := false, tag := "", pkgPath := "", byteOffset := 8 } rfl;have f2 := hf 2 { name := "B", type := 3, offset := 2, embedded := false, tag := "", pkgPath := "", byteOffset := 16 } rfl;have f3 := hf 3 { name := "C", type := 3, offset := 3, embedded := false, tag := "", pkgPath := "", byteOffset := 24 } rfl;simp only[cells2Int,List.drop_zero,List.drop_succ_cons,List.take_succ_cons,List.take_zero,List.getElem?_cons_zero,List.getElem?_cons_succ] at f0 f1 f2 f3;obtain⟨k0,e0,_,r0⟩:=DataW.trod_int Tryz.underlying3 f0;obtain⟨k1,e1,_,r1⟩:=DataW.trod_int Tryz.underlying3 f1;obtain⟨k2,e2,_,r2⟩:=DataW.trod_int Tryz.underlying3 f2;obtain⟨k3,e3,_,r3⟩:=DataW.trod_int Tryz.underlying3 f3;injection e0 with e0
 injection e1 with e1
 injection e2 with e2
 injection e3 with e3
 subst e0 e1 e2 e3;have d0:=dV 0 (by omega);have d1:=dV 1 (by omega);have d2:=dV 2 (by omega);have d3:=dV 3 (by omega);simp only[Addr.add,List.getElem?_cons_zero,List.getElem?_cons_succ] at d0 d1 d2 d3;exact⟨(k0,k1,k2,k3),by simpa using d0,by simpa using d1,by simpa using d2,by simpa using d3,⟨dR r0,dR r1,dR r2,dR r3⟩⟩
theorem open_lines {enc:TypeId × Value->H}{d0:DataW H}(h0:DataW.Trod enc Tryz.prog W 0 (λ _=>true) true 28 (.slice a0 len cap) d0 p):len<=cap/\cap<=maxLen/\∃ R:Nat->Raw,fo W a0 len R:=by
 obtain⟨fuel,hf⟩:=h0;rcases open_slice Tryz.underlying28 hf with⟨eZ,_⟩ | ⟨a,DF,oI,m,n,D,Pl,eZ,_,hl,hm,jA,hx,qV⟩
 ·simp[Value.cells] at eZ;obtain⟨rfl,rfl,rfl⟩:=eZ;exact⟨Nat.le_refl _,by unfold maxLen;omega,λ _=>(0,0,0,0),⟨λ i hi=>by omega⟩⟩
 ·simp[Value.cells] at eZ;obtain⟨rfl,rfl,rfl⟩:=eZ;refine⟨hl,hm,?_⟩;have ed:len<=m:=by rw[jA];split <;> omega
  obtain⟨g,off,sp⟩:=a;have AG:0<len->sp=none:=λ h=>by
   obtain⟨BU,hc,_⟩:=qV 0 (by omega);rw[cells2Line] at hc;obtain⟨_,yK,dV⟩:=World.cells?_some hc;obtain⟨c0,r,rfl⟩:∃ c0 r,BU=c0::r:=by
    match BU,yK with
    | c0::r,_=>exact⟨c0,r,rfl⟩
   have xA:=dV 0 (by omega);simpa[Addr.add] using World.cell?_spot xA
  have each:∀ i,i<len->∃ r:Raw,W.cell? ⟨g,off+i*4,none⟩=some (.int .i64 r.1)/\W.cell? ⟨g,off+i*4+1,none⟩=some (.int .i64 r.2.1)/\W.cell? ⟨g,off+i*4+2,none⟩=some (.int .i64 r.2.2.1)/\W.cell? ⟨g,off+i*4+3,none⟩=some (.int .i64 r.2.2.2)/\RawOk r:=by
   intro i hi;obtain⟨BU,hc,ht⟩:=qV i (by omega);rw[cells2Line] at hc;have hs:=AG (by omega);subst hs;rw[addr_add] at hc;exact open_line hc ht
  refine⟨λ i=>if h:i<len then Classical.choose (each i h) else (0,0,0,0),⟨λ i hi=>?_⟩⟩;have hc:=Classical.choose_spec (each i hi);have hs:=AG (by omega);subst hs;simp only[dif_pos hi];exact⟨g,off,rfl,World.block_lt_of_cell? W _ hc.1,hc⟩
end
end Go.Proofs.YtldkpahaocjdpaaGreat
