/-
  witness.Of: the witness that shows whether a thing follows.
-/
import Derived.Test.YtldkpahaocjdpaaGreatE44
set_option maxHeartbeats 16000000
set_option maxRecDepth 1000000
namespace Go.Proofs.YtldkpahaocjdpaaGreat
section
open Go.RowKit Go.Maps
attribute [local go_sem ↓] za9 qN qQ qM
attribute [local go_sem] Oper.semAt_some
attribute [local go_sem] jV jT
structure zuf (ps:P9)(S:B8->Nat)(rs:List PR)(K:List (Th × Nat))(O:List Pl)(rea:Nat->Nat × List Nat):Prop where
 perm:O.Perm (K.map (znf S))
 least:∀ (i:Nat) (h:i<O.length),Ep (ze2 O[i] O 0) rs O[i].t (rea i).1 (rea i).2
 len:∀ (i:Nat),i<O.length->(rea i).2.length<=3
 low:∀ (i:Nat),i<O.length->∀ x∈(rea i).2,x<i
def ybt (w:W8)(k:Nat)(ns:List (Nat × List Nat))(e:Ending)(w':W8):Prop:=
 ∃ (out:List ND) (a:O8) (c:Nat),e=.returned (.agg #[.int .i64 (k:Nat),.slice a out.length c])/\uX w' w.heap.size (.slice a out.length c) out/\out.map lf=ns/\Below w.heap.size w w'
theorem yb3 (ps:P9)(w:W8)(base tb n kb:Nat)(ar:O8)(cr:Nat)(rs:List PR)(S:B8->Nat)(K:List (Th × Nat))(asked:Th)(rea:List Pl->Nat->Nat × List Nat)(hr:ig w base (.slice ar rs.length cr) rs)(ht:dE Tryz.prog 9 w tb n (stV ps S))(hm:qU w kb K)(hg:∀ r∈rs,nL ps r)(hK:∀ p∈K,iC ps p.1)(hl:K.length<=50)(hS:∀ p:B8,(yY ps p).isSome=true->S p<=1000000)(bQ:zdu asked)(Yd:S asked.1<=1000000)(mS:(K.map λ p=>xF p.1).Nodup)(Lv:∀ O:List Pl,O.Perm (K.map (znf S))->(O.Pairwise λ p q=>vX p q=true)->zuf ps S rs K O (rea O)):
  Calls Tryz.prog 42 #[.slice ar rs.length cr,.map (some tb),.map (some kb),thV asked] w λ e w'=>∃ O:List Pl,O.Perm (K.map (znf S))/\(O.Pairwise λ p q=>vX p q=true)/\ybt w (jM ps S K asked) (zc1 (qY O (jM ps S K asked) asked (rea O) (qI O.length 0)) (qF O.length (rea O) (qY O (jM ps S K asked) asked (rea O) (qI O.length 0))) 0 (λ _=>0) []) e w':=by
 have rE:=ht.lt;have bh:=hm.lt;have HR:=zC hr;have HT:=zC ht;have HM:=zC hm;have HG:=zC hg;have HK:=zC hK;have Ia:=zC hS;have B6:=zC mS;have CA:=zC Lv;have Mu:=yU hr.row;unfold maxLen at Mu;obtain⟨ct,lJ⟩:∃ ct,ct=(zV asked).toArray:=⟨_,rfl⟩;have pC:=zC lJ;unfold thV;rw[<-lJ];clear hr ht hm hg hK hS mS Lv lJ;refine callsIn_wide.1 (callsIn_of_wp_marks (F:=Fence.wide) (n:=5) Tryz.func42 rfl trivial (wpIn_wide.2 ?_) rfl);simp only[Tryz.ntmps42,List.size_toArray,List.length_cons,List.length_nil,Nat.reduceAdd,Nat.reduceSub,Array.replicate_succ,Array.replicate_zero,List.push_toArray,List.append_toArray,List.nil_append,List.cons_append];go_upto_region 1 with fail;generalize bC:World.alloc (World.alloc (World.alloc w _) _) _=w0;have k0:Below w.heap.size w w0:=by
  rw[<-bC];exact (((Below.refl w.heap.size w).alloc L9 _).alloc (by simp) _).alloc (by simp only[World.size_alloc];omega) _
 have x4:w0.heap[w.heap.size]?=some (.cells #[.slice ar rs.length cr] 75 (0,0)):=by
  rw[<-bC,Below.heap_alloc _ _ _ (by simp only[World.size_alloc];omega),Below.heap_alloc _ _ _ (by simp)];exact heap_alloc_new w _
 have x7:TV w0 (w.heap.size+1) asked:=by
  rw[<-bC,zA pC]
  show _=_
  rw[Below.heap_alloc _ _ _ (by simp)];have:=heap_alloc_new (w.alloc (.cells #[.slice ar rs.length cr] 75)) (.cells (zV asked).toArray 88);rw[World.size_alloc] at this;exact this
 have x8:w0.heap[w.heap.size+1+1]?=some (.cells #[.int .i64 0,.slice none 0 0] 93 (0,0)):=by
  rw[<-bC];have:=heap_alloc_new ((w.alloc (.cells #[.slice ar rs.length cr] 75)).alloc (.cells ct 88)) (.cells #[.int .i64 0,.slice none 0 0] 93);rw[World.size_alloc,World.size_alloc] at this;exact this
 have s0:w0.heap.size=w.heap.size+1+1+1:=by rw[<-bC];simp
 clear bC;have t3:=x7.load;have HW:=zC (z3i w0 tb n kb ps S K asked ((zA HT).block (k0.block tb rE)) ((zA HM).block (k0.block kb bh)) bQ Yd);generalize hkk0:jM ps S K asked=kk at *;have QB:=zC hkk0;clear hkk0;have dr:=zC k0;have XX:=zC x4;have YT:=zC x7;have Y5:=zC x8;have mj:=zC s0;clear k0 x4 x7 x8 s0;go_upto_region 2 with (go_at_call 66;refine (zA HW).mono ?_;rintro en wa ⟨rfl,GC⟩;have AJ:=zC GC;clear GC);generalize CG:World.alloc wa _=wb;have wR:Below w0.heap.size w0 wb:=by rw[<-CG];exact (zA AJ).alloc (zA AJ).size _
 have x9:wb.heap[wa.heap.size]?=some (.cells #[.int .i64 (kk:Nat)] 3 (0,0)):=by rw[<-CG];exact heap_alloc_new wa _
 have Tq:wb.heap.size=wa.heap.size+1:=by rw[<-CG];simp
 have Tg:=(zA AJ).size;clear CG t3;have kw:Below w.heap.size w wb:=(zA dr).trans (wR.mono (zA dr).size);have HO:=zC (z1d wb kb tb n ps S K ((zA HM).block (kw.block kb bh)) ((zA HT).block (kw.block tb rE)) (by omega) (λ p hp=>yde (zA HK p hp)) (λ p hp=>⟨by have:=(zA HK p hp).w.pd.le;omega,by rw[(zA HK p hp).num];rfl⟩) (zA B6));have rS:=zC wR;have YI:=zC x9;have BW:=zC (And.intro Tq Tg);clear wR x9 Tq Tg kw;go_upto_region 3 with (go_at_call 67;refine (zA HO).mono ?_;rintro en wc ⟨O,ao,co,rfl,bV,qa,aB,ua⟩;have pD:=zC bV;have va:=zC qa;have Hy:=zC aB;have OM:=zC ua;clear bV qa aB ua);have MO:O.length<=50:=by rw[(zA pD).length_eq,List.length_map];exact hl
 generalize hwd:World.alloc wc _=wd;have kd:Below wb.heap.size wb wd:=by rw[<-hwd];exact (zA OM).alloc (zA OM).size _
 have P6:wd.heap[wc.heap.size]?=some (.cells #[.slice ao O.length co] 141 (0,0)):=by rw[<-hwd];exact heap_alloc_new wc _
 have ro:wd.ownsRow wb.heap.size 148 7 (.slice ao O.length co) O.length (O.flatMap ev):=by rw[<-hwd];exact (zA Hy).alloc _
 have sd:wd.heap.size=wc.heap.size+1:=by rw[<-hwd];simp
 have U2:=(zA OM).size;have gS:=(zB P6 0).1;simp only[List.getElem?_toArray,List.getElem?_cons_zero] at gS;have Qm:=zC kd;have LD:=zC P6;have gP:=zC ro;have P3:=zC (And.intro sd U2);have Ga:=zz7 O.length (by omega);have P7:=zpk O.length (by omega);clear hwd kd P6 ro sd U2;go_upto_region 4 with fail;have Oa:((wd.alloc (.cells (madeCells #[.int .i64 0,.slice none 0 0] (O.length*2)) 150)).alloc (.cells #[.slice (some ⟨wd.heap.size,0,none⟩) O.length O.length] 91)).cell? ⟨wc.heap.size,0,none⟩=some (.slice ao O.length co):=by
  have:=zA P3;rw[World.cell?_of_block (w:=wd) (by rw[Below.heap_alloc _ _ wc.heap.size (by simp only[World.size_alloc];omega),Below.heap_alloc _ _ wc.heap.size (by omega)])];exact gS
 clear gS;go_upto_region 5 with fail;generalize hwe:World.alloc (World.alloc (World.alloc (World.alloc wd _) _) _) _=we;have ke:Below wd.heap.size wd we:=by
  rw[<-hwe];exact ((((Below.refl wd.heap.size wd).alloc L9 _).alloc (by simp) _).alloc (by simp only[World.size_alloc];omega) _).alloc (by simp only[World.size_alloc];omega) _
 have f1:fi we wd.heap.size 150 (O.length*2) (λ c=>if c%2=0 then .int .i64 0 else .slice none 0 0):=by
  show _=_
  rw[<-hwe,Below.heap_alloc _ _ _ (by simp only[World.size_alloc];omega),Below.heap_alloc _ _ _ (by simp only[World.size_alloc];omega),Below.heap_alloc _ _ _ (by simp),<-zs3];exact heap_alloc_new wd _
 have f2:we.heap[wd.heap.size+1]?=some (.cells #[.slice (some ⟨wd.heap.size,0,none⟩) O.length O.length] 91 (0,0)):=by
  rw[<-hwe,Below.heap_alloc _ _ _ (by simp only[World.size_alloc];omega),Below.heap_alloc _ _ _ (by simp)];have:=heap_alloc_new (wd.alloc (.cells (madeCells #[.int .i64 0,.slice none 0 0] (O.length*2)) 150)) (.cells #[.slice (some ⟨wd.heap.size,0,none⟩) O.length O.length] 91);simpa only[World.size_alloc] using this
 have f3:fi we (wd.heap.size+1+1) 4 O.length (λ _=>.bool false):=by
  show _=_
  rw[<-hwe,Below.heap_alloc _ _ _ (by simp),<-zmy];have:=heap_alloc_new ((wd.alloc (.cells (madeCells #[.int .i64 0,.slice none 0 0] (O.length*2)) 150)).alloc (.cells #[.slice (some ⟨wd.heap.size,0,none⟩) O.length O.length] 91)) (.cells (madeCells #[.bool false] O.length) 4);simpa only[World.size_alloc] using this
 have f4:we.heap[wd.heap.size+1+1+1]?=some (.cells #[.slice (some ⟨wd.heap.size+1+1,0,none⟩) O.length O.length] 143 (0,0)):=by
  rw[<-hwe];have:=heap_alloc_new (((wd.alloc (.cells (madeCells #[.int .i64 0,.slice none 0 0] (O.length*2)) 150)).alloc (.cells #[.slice (some ⟨wd.heap.size,0,none⟩) O.length O.length] 91)).alloc (.cells (madeCells #[.bool false] O.length) 4)) (.cells #[.slice (some ⟨wd.heap.size+1+1,0,none⟩) O.length O.length] 143);simpa only[World.size_alloc] using this
 have se:we.heap.size=wd.heap.size+1+1+1+1:=by rw[<-hwe];simp
 clear hwe Oa Ga P7;have QJ:=zA P3;have JS:=(zB ((ke.block _ (by omega)).trans (zA LD)) 0).1;simp only[List.getElem?_toArray,List.getElem?_cons_zero] at JS;have HF:=zC (And.intro f1 (And.intro f2 (And.intro f3 (And.intro f4 se))));have UR:=zC ke;clear f1 f2 f3 f4 se ke QJ;have mJ:=zC (z81 we ao O.length co);go_wp2_with (go_at_call 68;refine (zA mJ).mono ?_;rintro en wf ⟨rfl,IX⟩);subst IX;generalize dX:World.alloc we _=w1;have hF:=zA HF;have QJ:=zA P3;have XO:=zA BW;have oM:=zA mj;have k1:Below we.heap.size we w1:=by rw[<-dX];exact (Below.refl we.heap.size we).alloc L9 _
 have s1:w1.heap.size=wd.heap.size+1+1+1+1+1:=by rw[<-dX,World.size_alloc,hF.2.2.2.2]
 have Ta:w1.heap[we.heap.size]?=some (.cells #[.slice ao O.length co] 141 (0,0)):=by rw[<-dX];exact heap_alloc_new we _
 have Ni:Below wd.heap.size wd w1:=(zA UR).trans (k1.mono (zA UR).size);have wR:Below wb.heap.size wb w1:=(zA Qm).trans (Ni.mono (zA Qm).size);have Jp:Below w0.heap.size w0 w1:=(zA rS).trans (wR.mono (zA rS).size);have EY:w1.ownsRow wb.heap.size 148 7 (.slice ao O.length co) O.length (O.flatMap ev):=zJ (zA gP) Ni (λ g e=>((zA gP).lt g e).2);have O7:=(zA Qm).size;have P5:=(zA rS).size;have dn:Ej w ar cr rs asked kk ao co wb.heap.size wa.heap.size wc.heap.size wd.heap.size O w1:=
  ⟨(Jp.block _ (by omega)).trans (zA XX),(Jp.block _ (by omega)).trans (zA YT),(Jp.block _ (by omega)).trans (zA Y5),(wR.block _ (by omega)).trans (zA YI),(Ni.block _ (by omega)).trans (zA LD),(k1.block _ (by omega)).trans hF.2.1,(k1.block _ (by omega)).trans hF.2.2.2.1,EY,(zA dr).trans (Jp.mono (zA dr).size),by omega,by omega,by omega,λ g e=>((zA gP).lt g e).2,by omega⟩
 have Su:j9 w ar cr rs asked kk ao co wb.heap.size wa.heap.size wc.heap.size wd.heap.size O (rea O) w1 (qY O kk asked (rea O) []) (ze5 O kk asked (rea O) []) w1:=
  ⟨dn,qH.refl _ _,(hF.2.2.1).block (k1.block _ (by omega)),⟨λ _=>.slice none 0 0,(hF.1.block (k1.block _ (by omega))).eq (λ i hi=>by simp[zx9,ze5]),λ i h=>by cases h⟩,by omega⟩
 have lz:=λ n=>zyr (ONo wd.heap.size) n w1 we.heap.size wb.heap.size ao co O Ta EY (by unfold ONo;omega) (λ g e=>by have:=((zA gP).lt g e).2;unfold ONo;omega) (by omega)
 have Ns:=zC Su;have oE:=zC s1;clear dX hF QJ XO oM k1 Ta Ni wR Jp EY O7 P5 dn JS Su;refine (wpIn_wide (n:=5)).1 ?_;refine wpIn_rangeFunc_ownH (α:=Fin O.length) rfl (by omega) (gf:=107) (lb:=#[.pointer (some ⟨we.heap.size,0,none⟩)]) rfl trivial (enters_of Tryz.func107 (by kernel_rfl) rfl)
  (lz _) (λ h1 h2=>qH.trans h1 h2) (λ W l o o' _ hl hc Eu=>zg6 W l o o' hl hc Eu) B9 (λ _=>rfl)
  (λ (pre:List (Fin O.length)) (W:W8)=>j9 w ar cr rs asked kk ao co wb.heap.size wa.heap.size wc.heap.size wd.heap.size O (rea O) w1 (qY O kk asked (rea O) pre) (ze5 O kk asked (rea O) pre) W)
  (λ (_:Code) (_:List (Fin O.length)) (_:W8)=>False)
  (λ pre A B row hs hg hr=>hs.grown hg (λ i e=>hr i e))
  (λ c pre A B row hs hg hr=>hs)
  (zA Ns)
  (λ (x:Fin O.length) (a':Act) (W:W8)=>∃ Bx,w1.heap.size<=Bx/\PV W Bx O[x]/\a'={ tmps:=List.toArray ((Value.slice ar rs.length cr)::(Value.map (some tb))::(Value.map (some kb))::(Value.agg ct)::(Value.pointer (some ⟨w.heap.size,0,none⟩))::undef::undef::(Value.pointer (some ⟨w.heap.size+1,0,none⟩))::(Value.pointer (some ⟨w.heap.size+1+1,0,none⟩))::(Value.pointer (some ⟨wa.heap.size,0,none⟩))::(Value.pointer (some ⟨wc.heap.size,0,none⟩))::(Value.pointer (some ⟨wd.heap.size+1,0,none⟩))::(Value.pointer (some ⟨wd.heap.size+1+1+1,0,none⟩))::(Value.int .i64 (x.1:Nat))::(Value.pointer (some ⟨Bx,0,none⟩))::undef::undef::(Value.map (some tb))::(Value.map (some kb))::(thV asked)::(Value.int .i64 (kk:Nat))::(Value.map (some kb))::(Value.map (some tb))::(Value.slice ao O.length co)::(Value.slice ao O.length co)::(Value.int .i64 (O.length:Nat))::(Value.slice (some ⟨wd.heap.size,0,none⟩) O.length O.length)::(Value.slice ao O.length co)::(Value.int .i64 (O.length:Nat))::(Value.slice (some ⟨wd.heap.size+1+1,0,none⟩) O.length O.length)::(Value.slice ao O.length co)::(Value.func (.func 107) #[] #[.pointer (some ⟨we.heap.size,0,none⟩)])::(Value.int .i64 (x.1:Nat))::(Value.agg #[.string O[x].t.p,.string (xW O[x].t.ts 0),.string (xW O[x].t.ts 1),.string (xW O[x].t.ts 2),.string (xW O[x].t.ts 3),.int .i64 O[x].s,.int .i64 O[x].h])::List.replicate 44 undef),defers:=[] })
  (λ x a' _ A B row hs hg hr=>let ⟨Bx,h1,h2,h3⟩:=hs;⟨Bx,h1,h2.grown hg (λ i e=>(hr i e).2),h3⟩)
  ?assign ?body ?done (λ D c pre W _ _ h=>h.elim)
 case assign=>
  intro l pre x W K2 hI uE;have wY:=zC uE;have HI:=zC hI;have hz:w1.heap.size<=W.heap.size:=hI.kp.size;clear uE hI Ns lz;unfold plV ev
  gi_wp2
  exact zA wY _ _ ((KeepsOthers.alloc _ _).from _) ((qH.refl _ _).alloc _) ((zA HI).grown (World.grownBy_alloc W _ none) (λ _ e=>by cases e)) ⟨W.heap.size,hz,heap_alloc_new W _,rfl⟩
 case body=>
  rintro l pre x a' W Vo-hI ⟨Bx,UT,My,rfl⟩ -;clear lz Ns;have hx:=x.2;have hxi:(x.1:Int)<O.length:=by omega
  have Tt:O[x.1]?=some O[x]:=List.getElem?_eq_getElem hx;have oN:iC ps O[x].t:=by
   obtain⟨q,hq,e⟩:=List.mem_map.1 ((zA pD).mem_iff.1 (List.getElem_mem hx))
   show iC ps O[x.1].t
   rw[<-e];exact zA HK q hq
  have pj:=(((zA CA) O (zA pD) (zA va)).least x.1 hx);have pj:Ep (ze2 O[x] O 0) rs O[x].t (rea O x.1).1 (rea O x.1).2:=pj;generalize O[x]=p at *;have c9:=(zB hI.box.y9 0).1;have gy:=(zB hI.box.FI 0).1;simp only[List.getElem?_toArray,List.getElem?_cons_zero] at c9 gy;have t7:(zk0 (.pointer (some ⟨w.heap.size+1,0,none⟩))).run Tryz.prog W=.ok (.agg #[.string asked.p,.string (xW asked.ts 0),.string (xW asked.ts 1),.string (xW asked.ts 2),.string (xW asked.ts 3)]) W:=hI.box.y7.load;have Wj:=My.loadT;have p5:=(zB My 5).1;simp only[ev,List.getElem?_toArray,List.getElem?_cons_zero,List.getElem?_cons_succ] at p5;have nc:=hI.nI.cell hx;have nf:=hI.nI.fz x.1;obtain⟨be,iL⟩:∃ be,be=decide (p.t=asked):=⟨_,rfl⟩;have hs:∀ u:W8,(Op.equalIn 10000 88 (.agg #[.string p.t.p,.string (xW p.t.ts 0),.string (xW p.t.ts 1),.string (xW p.t.ts 2),.string (xW p.t.ts 3)]) (.agg #[.string asked.p,.string (xW asked.ts 0),.string (xW asked.ts 1),.string (xW asked.ts 2),.string (xW asked.ts 3)])).run Tryz.prog u=.ok be u:=λ u=>by
   rw[iL,<-yeq oN.ok bQ];exact yel u p.t.p (xW p.t.ts 0) (xW p.t.ts 1) (xW p.t.ts 2) (xW p.t.ts 3) asked.p (xW asked.ts 0) (xW asked.ts 1) (xW asked.ts 2) (xW asked.ts 3)
  have Hu:∀ (u:W8) (xs ys:Array Value),(eqGuard .eql 88 (.tmp 40) (.tmp 41) (.agg xs) (.agg ys)).run Tryz.prog u=.ok () u:=λ u xs ys=>run_eqGuard_agg u _ _ _ _ _ _ (by kernel_rfl)
  have Ev:=zC iL;clear iL;have HI:=zC hI;have NV:=zC My;have P2:=zC oN;have Of:=zC pj;have XE:=zC Tt;clear hI My oN pj Tt
  have Dy:=zC (show ∀ b:Bool,b=(decide (p.s<kk)||decide (p.t=asked))->zdn O kk asked (qY O kk asked (rea O) pre) x.1=if b then zbf (qY O kk asked (rea O) pre) x.1 true else qY O kk asked (rea O) pre from by
   intro b hb;unfold zdn yd5;rw[zA XE,hb]
   rfl)
  have Jd:p.s<kk\/(¬ p.s<kk/\be=true)\/(¬ p.s<kk/\be=false):=by
   cases be <;> by_cases h:p.s<kk <;> simp[h]
  rcases Jd with h1 | ⟨h1,h2⟩ | ⟨h1,h2⟩
  all_goals gi_upto_region 10 with fail
  have gW:=zA Dy true (by simp[h1]);have fq:=(zA HI).own x.1;rw[if_pos rfl] at gW;rw[<-gW] at fq;have iz:=(tL.refl wd.heap.size W).set (j:=x.1) (.inr rfl) (.bool true);have dU:PV (W.setCell ⟨wd.heap.size+1+1,x.1,none⟩ (.bool true)) Bx p:=(Below.heap_setCell _ _ _ _ (by simp;omega)).trans (zA NV);generalize W.setCell ⟨wd.heap.size+1+1,x.1,none⟩ (.bool true)=W2 at *
  rotate_left
  have gW:=zA Dy true (by rw[<-zA Ev,h2];simp);have fq:=(zA HI).own x.1;rw[if_pos rfl] at gW;rw[<-gW] at fq;have iz:=(tL.refl wd.heap.size W).set (j:=x.1) (.inr rfl) (.bool true);have dU:PV (W.setCell ⟨wd.heap.size+1+1,x.1,none⟩ (.bool true)) Bx p:=(Below.heap_setCell _ _ _ _ (by simp;omega)).trans (zA NV);generalize W.setCell ⟨wd.heap.size+1+1,x.1,none⟩ (.bool true)=W2 at *
  rotate_left
  have gW:=zA Dy false (by rw[<-zA Ev,h2];simp[h1]);have fq:=zA HI;rw[if_neg (by simp)] at gW;rw[<-gW] at fq;have dU:=zA NV;obtain⟨W2,QU⟩:∃ W2,W2=W:=⟨_,rfl⟩;have iz:tL wd.heap.size W W2:=by rw[QU];exact tL.refl _ _
  rw[<-QU] at fq dU ⊢;clear QU
  rotate_left
  all_goals
   clear c9 gy t7 Wj p5 nc nf hs Hu gW h1 Dy Ev;have mU:=zf8 O kk asked (rea O) pre x;have SI:=zsv O kk asked (rea O) pre x;rw[zcv] at mU;generalize zdn O kk asked (qY O kk asked (rea O) pre) x.1=B1 at *;have Lc:=zC mU;have De:=zC SI;clear mU SI;have gy:=(zB fq.box.FI 0).1;simp only[List.getElem?_toArray,List.getElem?_cons_zero] at gy;have nc:=fq.nI.cell hx;have pE:=zC fq;have Cs:=zC dU;have FC:=zC iz;clear fq dU iz
   cases aL:B1 x.1 with
   | false=>
    rw[aL] at nc;have gh:=zC aL;clear aL
    gi_wp2
    have KR:=j9.ends (zA HI) (zA pE) (zA FC);refine⟨KR.1,KR.2,?_⟩
    show j9 w ar cr rs asked kk ao co wb.heap.size wa.heap.size wc.heap.size wd.heap.size O (rea O) w1 (qY O kk asked (rea O) (pre++[x])) (ze5 O kk asked (rea O) (pre++[x])) W2
    rw[zA Lc,zA De,zA gh,if_neg (by simp),if_neg (by simp)];exact zA pE
   | true=>
    rw[aL] at nc;have gh:=zC aL;clear aL
    gi_upto_region 11 with fail
    obtain⟨S',C6⟩:∃ S':W8->Prop,S'=λ V=>∀ i,i<W2.heap.size->i≠wd.heap.size->V.heap[i]?=W2.heap[i]?:=⟨_,rfl⟩
    have fq:=zA pE;have Oy:=(Array.getElem?_eq_some_iff.1 fq.box.FI).1;have OP:=fq.box.l9;have KM:=fq.box.yo;have Oo:=fq.box.lD
    have fR:=zC (λ (V:W8) (hV:S' V)=>(show V.cell? ⟨wd.heap.size+1,0,none⟩=some (.slice (some ⟨wd.heap.size,0,none⟩) O.length O.length)/\V.cell? ⟨w.heap.size,0,none⟩=some (.slice ar rs.length cr)/\V.cell? ⟨wc.heap.size,0,none⟩=some (.slice ao O.length co)/\PV V Bx p from by
     rw[C6] at hV;have dU:=zA Cs
     exact⟨(zB ((hV _ (by omega) (by omega)).trans fq.box.MI) 0).1,(zB ((hV _ (by omega) (by omega)).trans fq.box.y4) 0).1,(zB ((hV _ (by omega) (by omega)).trans fq.box.Un) 0).1,(hV _ dU.lt (by omega)).trans dU⟩))
    have Ft:=zC (λ (V:W8) (hV:Below W2.heap.size W2 V)=>(show S' V from by rw[C6];exact λ i hi _=>hV.block i hi));have GN:=zC (λ (V:W8) (hV:S' V) (j:Nat) (v:Value)=>(show S' (V.setCell ⟨wd.heap.size,j,none⟩ v) from by rw[C6] at hV ⊢;exact λ i hi hn=>(Below.heap_setCell _ _ _ _ (by simpa using hn)).trans (hV i hi hn)))
    have SA:=zC (λ (V:W8) (hV:Below W2.heap.size W2 V)=>zyq ps V base wb.heap.size ar ao cr co rs O p ((zA HR).below (fq.box.k.trans (hV.mono fq.box.k.size))) (zJ fq.box.ro hV (λ g e=>(fq.box.ro.lt g e).2)) (zA HG) (λ q hq=>by
     obtain⟨y,hy,e⟩:=List.mem_map.1 ((zA pD).mem_iff.1 hq);rw[<-e]
     exact zA HK y hy) (zA P2) (by
     have h3:(O.map (·.t)).Perm ((K.map (znf S)).map (·.t)):=(zA pD).map _;refine h3.symm.nodup ?_;rw[List.map_map]
     exact zfg xF (by rw[List.map_map];exact zA B6)) (by omega))
    have oM:=zA Ft W2.drew B9.drew;clear C6 fq Oy OP KM Oo gy nc;refine zjp S' (by kernel_rfl) (by kernel_rfl) (λ ⟨_,_,h⟩=>h) ?_;refine K9 0 (.slice (some ⟨wd.heap.size,0,none⟩) O.length O.length) rfl (Or.inl ⟨by rfl,λ V hV=>by obtain⟨m0,m1,m2,m3⟩:=zA fR V hV;go_simp⟩) oM ?_;refine K9 1 (.int .i64 (x.1:Nat)) rfl (Or.inl ⟨by rfl,λ V _=>by go_simp⟩) oM ?_;refine K9 2 (.slice ar rs.length cr) rfl (Or.inl ⟨by rfl,λ V hV=>by obtain⟨m0,m1,m2,m3⟩:=zA fR V hV;go_simp⟩) oM ?_;refine K9 3 (.slice ao O.length co) rfl (Or.inl ⟨by rfl,λ V hV=>by obtain⟨m0,m1,m2,m3⟩:=zA fR V hV;go_simp⟩) oM ?_;refine K9 4 (.agg #[.string p.t.p,.string (xW p.t.ts 0),.string (xW p.t.ts 1),.string (xW p.t.ts 2),.string (xW p.t.ts 3),.int .i64 p.s,.int .i64 p.h]) rfl (Or.inl ⟨by rfl,λ V hV=>by obtain⟨m0,m1,m2,m3⟩:=zA fR V hV;have n0:=(zB m3 0).1;have n1:=(zB m3 1).1;have n2:=(zB m3 2).1;have n3:=(zB m3 3).1;have n4:=(zB m3 4).1;have n5:=(zB m3 5).1;have n6:=(zB m3 6).1;simp only[ev,List.getElem?_toArray,List.getElem?_cons_zero,List.getElem?_cons_succ] at n0 n1 n2 n3 n4 n5 n6;go_simp⟩) oM ?_;refine wpAnyH_ready (rs:=[5]) (by kernel_rfl) (by simp) ?_;refine AllReadyH.cons rfl (λ K hK=>?_) AllReadyH.nil
    go_simp
    refine (zA SA _ B9.drew).mono ?_;rintro en w4 ⟨bZ,i4,Pa,a4,c4,rfl,mN,KV⟩;have hle:=zA Of;have Zn:i4=(rea O x.1).1/\Pa=(rea O x.1).2:=by
     rcases KV with h | h
     ·exact h.uniq hle
     ·have:=hle.mem;rw[h _ (List.getElem_mem hle.lt)] at this
      cases this
    obtain⟨rfl,rfl⟩:=Zn;have dP:=yA bZ;have uy:=zA Ft w4 dP;have ik:=(zA pE).below dP;have mN:=zG (base':=w1.heap.size) mN (Nat.le_trans (zA HI).kp.size (zA FC).size);obtain⟨V4,f4,-⟩:=ik.wG;have Vf:=f4.cell (i:=x.1*2) (by omega);have Ws:=f4.cell (i:=x.1*2+1) (by omega);have Pe:=f4.fz (x.1*2);have Ye:=f4.fz (x.1*2+1);have SQ:=zC ((zA FC).below dP);have Cd:=zC ik;have Vx:=zC mN;refine hK.out _ _ uy (λ _=>?_);clear hK K bZ KV hle ik mN f4;refine K9 6 (.pointer (some ⟨wd.heap.size,x.1*2,none⟩)) rfl (Or.inl ⟨by rfl,λ V _=>by go_simp⟩) uy ?_;refine wpAnyH_ready (rs:=[7]) (by kernel_rfl) (by simp) ?_;refine AllReadyH.cons rfl (λ K hK=>?_) AllReadyH.nil
    go_simp
    refine hK.out _ _ (zA GN _ (zA GN _ uy _ _) _ _) (λ _=>?_);clear hK K;refine wpAnyH_done (by kernel_rfl) ?_ _;have iR:=(zA Cd).put x.1 hx (zA Vx);have mn:=((zA SQ).set (b:=wd.heap.size) (j:=x.1*2) (.inl rfl) (.int .i64 ((rea O x.1).1:Nat))).set (b:=wd.heap.size) (j:=x.1*2+1) (.inl rfl) (.slice a4 (rea O x.1).2.length c4);have Uj:=((zA CA) O (zA pD) (zA va)).len x.1 hx;have EJ:=((zA CA) O (zA pD) (zA va)).low x.1 hx;clear Vf Ws Pe Ye Cd Vx SQ dP uy oM fR Ft GN SA;generalize (w4.setCell ⟨wd.heap.size,x.1*2,none⟩ (.int .i64 ((rea O x.1).1:Nat))).setCell ⟨wd.heap.size,x.1*2+1,none⟩ (.slice a4 (rea O x.1).2.length c4)=w5 at iR mn ⊢;obtain⟨Di,UD,Vr⟩:=iR;have lI:=(zB Di.box.MI 0).1;simp only[List.getElem?_toArray,List.getElem?_cons_zero] at lI;generalize aB:(rea O x.1).2=row at *;have H0:=zC (show j9 w ar cr rs asked kk ao co wb.heap.size wa.heap.size wc.heap.size wd.heap.size O (rea O) w1 (vR B1 (row.take 0)) (zbf (ze5 O kk asked (rea O) pre) x.1 true) w5/\w5.ownsRow w1.heap.size 3 1 (.slice a4 row.length c4) row.length (ez row)/\tL wd.heap.size W w5 from ⟨Di,UD,mn⟩);have Zr:=zC EJ;clear Di UD mn EJ
    gi_upto_region 13 with fail
    gi_loopg [65] row.length (λ gg i wr=>∃ k:Nat,k<=row.length/\gg=row.length-k/\i=.int .i64 k/\(j9 w ar cr rs asked kk ao co wb.heap.size wa.heap.size wc.heap.size wd.heap.size O (rea O) w1 (vR B1 (row.take k)) (zbf (ze5 O kk asked (rea O) pre) x.1 true) wr/\wr.ownsRow w1.heap.size 3 1 (.slice a4 row.length c4) row.length (ez row)/\tL wd.heap.size W wr))
    exact⟨0,Nat.zero_le _,rfl,rfl,zA H0⟩
    case round=>
     clear H0 lI Vr;obtain⟨k,hk,eA,rfl,ax,oL,lx⟩:=hrel
     by_cases aF:k<row.length
     ·obtain⟨g,rfl,aZ,hcg⟩:=z3q oL k aF;have gy:=(zB ax.box.FI 0).1;simp only[List.getElem?_toArray,List.getElem?_cons_zero] at gy;have hy:=zA Zr row[k] (List.getElem_mem aF);have VG:((row[k]:Nat):Int)<O.length:=(by omega);have nc:=ax.nI.cell (i:=row[k]) (by omega);have nf:=ax.nI.fz row[k];have nz:(k:Int)<row.length:=(by omega);have bT:=zC ax;have NY:=zC oL;have GF:=zC lx;clear ax oL lx
      gi_wp2
      gi_roundg (row.length-(k+1))
      case measure=>omega
      case rel=>
       refine⟨k+1,by omega,rfl,by go_num,?_,?_,(zA GF).set (.inr rfl) _⟩
       ·rw[zij aF];exact (zA bT).own row[k]
       ·exact zZ (zA NY) (λ g e=>by have:=((zA NY).lt g e).1;exact Below.heap_setCell _ _ _ _ (by simp;omega))
     ·have Gj:k=row.length:=(by omega);subst Gj;have nz:¬ ((row.length:Int)<row.length):=(by omega);have bT:=zC ax;have GF:=zC lx;clear ax oL lx s1
      gi_wp2
      have KR:=j9.ends (zA HI) (zA bT) (zA GF);refine⟨KR.1,KR.2,?_⟩
      show j9 w ar cr rs asked kk ao co wb.heap.size wa.heap.size wc.heap.size wd.heap.size O (rea O) w1 (qY O kk asked (rea O) (pre++[x])) (ze5 O kk asked (rea O) (pre++[x])) _
      rw[zA Lc,zA De,zA gh,if_pos rfl,if_pos rfl];have:=zA bT;rw[List.take_length] at this;exact this
 case done=>
  rintro D xs W hD V9 hI kK;subst V9;have sg:O.length<=maxLen:=by unfold maxLen;omega
  have hA:=(zA CA) O (zA pD) (zA va);obtain⟨bG,mB,Mh,Hv⟩:=hI.nodes sg;have Vi:=zns (k:=kk) (asked:=asked) hA.low O.length 0 (by omega);have LB:bG.map lf=qF O.length (rea O) (qY O kk asked (rea O) (qI O.length 0)):=by
   rw[Hv];unfold qF;apply List.map_congr_left;intro i hi;rw[Vi i (List.mem_range.1 hi)];simp
  have mP:∀ y∈bG,y.fr.length<=3/\∀ z∈y.fr,z<bG.length:=by
   intro y hy;have:lf y∈bG.map lf:=List.mem_map_of_mem hy;rw[Hv] at this;obtain⟨i,hi,e⟩:=List.mem_map.1 this;have hi:=List.mem_range.1 hi;have e2:y.fr=(if ze5 O kk asked (rea O) (qI O.length 0) i=true then rea O i else (0,[])).2:=(by rw[e];rfl);rw[e2]
   split
   ·exact⟨hA.len i hi,λ z hz=>by have:=hA.low i hi z hz;omega⟩
   ·exact⟨by simp,λ z hz=>by cases hz⟩
  have wz:=zC (λ (V:W8) (hV:Below W.heap.size W V)=>z45 V wd.heap.size (wd.heap.size+1+1) (some ⟨wd.heap.size,0,none⟩) O.length bG (qY O kk asked (rea O) (qI O.length 0)) (by rw[mB];exact Mh.below hV) (by rw[mB];exact hI.nI.below hV) (by omega) mP);rw[mB,LB] at wz;have HI:=zC hI;have HD:=zC hD;have yz:=zC kK;have hk:=hI.kp.size;have Mq:=hI.box.l9;have XC:=hI.box.yo;have hlD:=hI.box.lD
  have HA:=zC (λ (V:W8) (hV:∀ i,i<W.heap.size->i≠w.heap.size+1+1->V.heap[i]?=W.heap[i]?)=>(show V.cell? ⟨wa.heap.size,0,none⟩=some (.int .i64 (kk:Nat))/\V.cell? ⟨wd.heap.size+1,0,none⟩=some (.slice (some ⟨wd.heap.size,0,none⟩) O.length O.length)/\V.cell? ⟨wd.heap.size+1+1+1,0,none⟩=some (.slice (some ⟨wd.heap.size+1+1,0,none⟩) O.length O.length) from
   ⟨(zB ((hV _ (by omega) (by omega)).trans hI.box.y9) 0).1,(zB ((hV _ (by omega) (by omega)).trans hI.box.MI) 0).1,(zB ((hV _ (by omega) (by omega)).trans hI.box.FI) 0).1⟩))
  have En:=zA HA W.drew (λ i _ _=>rfl);have oJ:w.heap.size+1+1<W.heap.size:=by omega
  clear hI hD kK Mh Hv LB mP Vi hA lz Ns s1;go_upto_region 17 with fail
  go_region_held3 (λ V=>V.cell? ⟨wa.heap.size,0,none⟩=some (.int .i64 (kk:Nat))/\V.cell? ⟨wd.heap.size+1,0,none⟩=some (.slice (some ⟨wd.heap.size,0,none⟩) O.length O.length)/\V.cell? ⟨wd.heap.size+1+1+1,0,none⟩=some (.slice (some ⟨wd.heap.size+1+1,0,none⟩) O.length O.length)) ((refine zA HA _ ?_;first | exact uy | exact (λ i _ _=>rfl) | exact (λ i hi hn=>by rw[Below.heap_setCell _ _ _ _ (by simpa using hn),Below.heap_setCell _ _ _ _ (by simpa using hn)];exact uy i hi hn))) ((go_at_call 70;refine (zA wz _ (by exact B9.drew)).mono ?_;rintro en w4 ⟨out,a4,c4,rfl,vx,Cf,bZ⟩;have dP:=yA bZ;have uy:∀ i,i<W.heap.size->i≠w.heap.size+1+1->w4.heap[i]?=W.heap[i]?:=(λ i hi _=>dP.block i hi);obtain⟨r0,f0⟩:=zB ((dP.block _ oJ).trans (zA HI).box.y8) 0;obtain⟨r1,f1⟩:=zB ((dP.block _ oJ).trans (zA HI).box.y8) 1;simp only[List.getElem?_toArray,List.getElem?_cons_zero,List.getElem?_cons_succ] at r0 r1;have VV:=zC vx;have Py:=zC Cf;clear vx Cf bZ))
  obtain⟨q0,q1⟩:=zj2 r0 r1 (.int .i64 (kk:Nat)) (.slice a4 out.length c4);have mf:∀ i,i≠w.heap.size+1+1->((w4.setCell ⟨w.heap.size+1+1,0,none⟩ (.int .i64 (kk:Nat))).setCell ⟨w.heap.size+1+1,1,none⟩ (.slice a4 out.length c4)).heap[i]?=w4.heap[i]?:=λ i hi=>by rw[Below.heap_setCell _ _ _ _ (by simpa using hi),Below.heap_setCell _ _ _ _ (by simpa using hi)]
  go_wp2_with fail;refine zbm [D] _ (by simp) (λ E hE=>?_) (λ w' hs=>?_)
  ·rw[List.mem_singleton.1 hE];have h1:=zA yz;have h2:=zA HD;have h3:=zA oE;rw[mf D (by omega),dP.block D (Array.getElem?_eq_some_iff.1 h1).1];exact h1
  ·have h1:=zA yz;have h2:=zA HD;have h3:=zA oE;have hDl:=(Array.getElem?_eq_some_iff.1 h1).1;have hI:=zA HI;have q2:=(World.cell?_of_block (a:=⟨w.heap.size+1+1,0,none⟩) (hs.block (w.heap.size+1+1) (by simp;omega))).trans q0;have q3:=(World.cell?_of_block (a:=⟨w.heap.size+1+1,1,none⟩) (hs.block (w.heap.size+1+1) (by simp;omega))).trans q1;refine⟨.agg #[.int .i64 (kk:Nat),.slice a4 out.length c4],by simp[results,Tryz.results42,go_sem,q2,q3],?_⟩;have dX:=hI.box.k.size;have vx:=zA VV;have dK:∀ i,W.heap.size<=i->w'.heap[i]?=w4.heap[i]?:=λ i hi=>(hs.block i (by simp;omega)).trans (mf i (by omega))
   rw[zA QB];refine⟨O,zA pD,zA va,out,a4,c4,rfl,⟨zZ (zG vx.row dX) (λ g e=>dK g (vx.row.lt g e).1),λ y hy=>zZ (zG (vx.each y hy) dX) (λ g e=>dK g ((vx.each y hy).lt g e).1)⟩,zA Py,?_⟩;exact⟨hs.os.trans (dP.os.trans hI.box.k.os),hs.tape.trans (dP.tape.trans hI.box.k.tape),hs.output.trans (dP.output.trans hI.box.k.output),by rw[hs.size];simpa using Nat.le_trans dX dP.size,λ i hi=>(hs.block i (by simp;omega)).trans ((mf i (by omega)).trans ((dP.block i (by omega)).trans (hI.box.k.block i hi)))⟩
end
end Go.Proofs.YtldkpahaocjdpaaGreat
