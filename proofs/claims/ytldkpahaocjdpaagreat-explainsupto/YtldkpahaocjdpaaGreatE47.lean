/-
  witness.Of: the witness that shows whether a thing follows.
-/
import Derived.Test.YtldkpahaocjdpaaGreatE45
set_option maxHeartbeats 16000000
set_option maxRecDepth 1000000
namespace Go.Proofs.YtldkpahaocjdpaaGreat
section
open Go.RowKit Go.Maps
attribute [local go_sem ↓] zbb qQ qP qO
attribute [local go_sem] Oper.semAt_some
attribute [local go_sem] jY jX
structure ztn (ps:P9)(S:B8->Nat)(rs:List PR)(K:List (Th × Nat))(O:List Pl)(rea:Nat->Nat × List Nat):Prop where
 perm:O.Perm (K.map (zno S))
 least:∀ (i:Nat) (h:i<O.length),E0 (ze2 O[i] O 0) rs O[i].t (rea i).1 (rea i).2
 len:∀ (i:Nat),i<O.length->(rea i).2.length<=3
 low:∀ (i:Nat),i<O.length->∀ x∈(rea i).2,x<i
def yad (w:W8)(k:Nat)(ns:List (Nat × List Nat))(e:Ending)(w':W8):Prop:=
 ∃ (out:List ND) (a:O8) (c:Nat),e=.returned (.agg #[.int .i64 (k:Nat),.slice a out.length c])/\wI w' w.heap.size (.slice a out.length c) out/\out.map lk=ns/\Below w.heap.size w w'
theorem ycn (ps:P9)(w:W8)(base tb n kb:Nat)(ar:O8)(cr:Nat)(rs:List PR)(S:B8->Nat)(K:List (Th × Nat))(asked:Th)(rea:List Pl->Nat->Nat × List Nat)(hr:iq w base (.slice ar rs.length cr) rs)(ht:dE Tryz.prog 9 w tb n (stV ps S))(hm:qR w kb K)(hg:∀ r∈rs,nP ps r)(hK:∀ p∈K,iD ps p.1)(hl:K.length<=50)(hS:∀ p:B8,(yX ps p).isSome=true->S p<=1000000)(bR:zdu asked)(Xw:S asked.1<=1000000)(mT:(K.map λ p=>xK p.1).Nodup)(Ki:∀ O:List Pl,O.Perm (K.map (zno S))->(O.Pairwise λ p q=>vU p q=true)->ztn ps S rs K O (rea O)):
  Calls Tryz.prog 42 #[.slice ar rs.length cr,.map (some tb),.map (some kb),thV asked] w λ e w'=>∃ O:List Pl,O.Perm (K.map (zno S))/\(O.Pairwise λ p q=>vU p q=true)/\yad w (jO ps S K asked) (zcy (qX O (jO ps S K asked) asked (rea O) (qI O.length 0)) (qF O.length (rea O) (qX O (jO ps S K asked) asked (rea O) (qI O.length 0))) 0 (λ _=>0) []) e w':=by
 have rk:=ht.lt;have bh:=hm.lt;have HR:=zC hr;have HT:=zC ht;have HM:=zC hm;have HG:=zC hg;have HK:=zC hK;have Hw:=zC hS;have B2:=zC mT;have Cp:=zC Ki;have Nh:=yU hr.row;unfold maxLen at Nh;obtain⟨ct,lL⟩:∃ ct,ct=(zV asked).toArray:=⟨_,rfl⟩;have pw:=zC lL;unfold thV;rw[<-lL];clear hr ht hm hg hK hS mT Ki lL;refine callsIn_wide.1 (callsIn_of_wp_marks (F:=Fence.wide) (n:=5) Tryz.func42 rfl trivial (wpIn_wide.2 ?_) rfl);simp only[Tryz.ntmps42,List.size_toArray,List.length_cons,List.length_nil,Nat.reduceAdd,Nat.reduceSub,Array.replicate_succ,Array.replicate_zero,List.push_toArray,List.append_toArray,List.nil_append,List.cons_append];go_upto_region 1 with fail;generalize bC:World.alloc (World.alloc (World.alloc w _) _) _=w0;have k0:Below w.heap.size w w0:=by
  rw[<-bC];exact (((Below.refl w.heap.size w).alloc L9 _).alloc (by simp) _).alloc (by simp only[World.size_alloc];omega) _
 have x4:w0.heap[w.heap.size]?=some (.cells #[.slice ar rs.length cr] 75 (0,0)):=by
  rw[<-bC,Below.heap_alloc _ _ _ (by simp only[World.size_alloc];omega),Below.heap_alloc _ _ _ (by simp)];exact heap_alloc_new w _
 have x7:TV w0 (w.heap.size+1) asked:=by
  rw[<-bC,zA pw]
  show _=_
  rw[Below.heap_alloc _ _ _ (by simp)];have:=heap_alloc_new (w.alloc (.cells #[.slice ar rs.length cr] 75)) (.cells (zV asked).toArray 88);rw[World.size_alloc] at this;exact this
 have x8:w0.heap[w.heap.size+1+1]?=some (.cells #[.int .i64 0,.slice none 0 0] 93 (0,0)):=by
  rw[<-bC];have:=heap_alloc_new ((w.alloc (.cells #[.slice ar rs.length cr] 75)).alloc (.cells ct 88)) (.cells #[.int .i64 0,.slice none 0 0] 93);rw[World.size_alloc,World.size_alloc] at this;exact this
 have s0:w0.heap.size=w.heap.size+1+1+1:=by rw[<-bC];simp
 clear bC;have t3:=x7.load;have HW:=zC (z5y w0 tb n kb ps S K asked ((zA HT).block (k0.block tb rk)) ((zA HM).block (k0.block kb bh)) bR Xw);generalize hkk0:jO ps S K asked=kk at *;have Ot:=zC hkk0;clear hkk0;have dr:=zC k0;have WT:=zC x4;have WU:=zC x7;have WW:=zC x8;have lV:=zC s0;clear k0 x4 x7 x8 s0;go_upto_region 2 with (go_at_call 66;refine (zA HW).mono ?_;rintro en wa ⟨rfl,FU⟩;have yh:=zC FU;clear FU);generalize Dv:World.alloc wa _=wb;have xu:Below w0.heap.size w0 wb:=by rw[<-Dv];exact (zA yh).alloc (zA yh).size _
 have x9:wb.heap[wa.heap.size]?=some (.cells #[.int .i64 (kk:Nat)] 3 (0,0)):=by rw[<-Dv];exact heap_alloc_new wa _
 have Va:wb.heap.size=wa.heap.size+1:=by rw[<-Dv];simp
 have UO:=(zA yh).size;clear Dv t3;have kw:Below w.heap.size w wb:=(zA dr).trans (xu.mono (zA dr).size);have HO:=zC (z3z wb kb tb n ps S K ((zA HM).block (kw.block kb bh)) ((zA HT).block (kw.block tb rk)) (by omega) (λ p hp=>ydy (zA HK p hp)) (λ p hp=>⟨by have:=(zA HK p hp).w.pd.le;omega,by rw[(zA HK p hp).num];rfl⟩) (zA B2));have rR:=zC xu;have WX:=zC x9;have B5:=zC (And.intro Va UO);clear xu x9 Va UO kw;go_upto_region 3 with (go_at_call 67;refine (zA HO).mono ?_;rintro en wc ⟨O,ao,co,rfl,bV,rj,aB,sL⟩;have px:=zC bV;have uM:=zC rj;have Hv:=zC aB;have N7:=zC sL;clear bV rj aB sL);have MZ:O.length<=50:=by rw[(zA px).length_eq,List.length_map];exact hl
 generalize hwd:World.alloc wc _=wd;have kd:Below wb.heap.size wb wd:=by rw[<-hwd];exact (zA N7).alloc (zA N7).size _
 have RB:wd.heap[wc.heap.size]?=some (.cells #[.slice ao O.length co] 141 (0,0)):=by rw[<-hwd];exact heap_alloc_new wc _
 have ro:wd.ownsRow wb.heap.size 148 7 (.slice ao O.length co) O.length (O.flatMap ez):=by rw[<-hwd];exact (zA Hv).alloc _
 have sd:wd.heap.size=wc.heap.size+1:=by rw[<-hwd];simp
 have UP:=(zA N7).size;have gD:=(zB RB 0).1;simp only[List.getElem?_toArray,List.getElem?_cons_zero] at gD;have Oo:=zC kd;have JC:=zC RB;have gC:=zC ro;have OM:=zC (And.intro sd UP);have Gl:=zyu O.length (by omega);have Qr:=zpn O.length (by omega);clear hwd kd RB ro sd UP;go_upto_region 4 with fail;have Pa:((wd.alloc (.cells (madeCells #[.int .i64 0,.slice none 0 0] (O.length*2)) 150)).alloc (.cells #[.slice (some ⟨wd.heap.size,0,none⟩) O.length O.length] 91)).cell? ⟨wc.heap.size,0,none⟩=some (.slice ao O.length co):=by
  have:=zA OM;rw[World.cell?_of_block (w:=wd) (by rw[Below.heap_alloc _ _ wc.heap.size (by simp only[World.size_alloc];omega),Below.heap_alloc _ _ wc.heap.size (by omega)])];exact gD
 clear gD;go_upto_region 5 with fail;generalize hwe:World.alloc (World.alloc (World.alloc (World.alloc wd _) _) _) _=we;have ke:Below wd.heap.size wd we:=by
  rw[<-hwe];exact ((((Below.refl wd.heap.size wd).alloc L9 _).alloc (by simp) _).alloc (by simp only[World.size_alloc];omega) _).alloc (by simp only[World.size_alloc];omega) _
 have f1:fj we wd.heap.size 150 (O.length*2) (λ c=>if c%2=0 then .int .i64 0 else .slice none 0 0):=by
  show _=_
  rw[<-hwe,Below.heap_alloc _ _ _ (by simp only[World.size_alloc];omega),Below.heap_alloc _ _ _ (by simp only[World.size_alloc];omega),Below.heap_alloc _ _ _ (by simp),<-zrg];exact heap_alloc_new wd _
 have f2:we.heap[wd.heap.size+1]?=some (.cells #[.slice (some ⟨wd.heap.size,0,none⟩) O.length O.length] 91 (0,0)):=by
  rw[<-hwe,Below.heap_alloc _ _ _ (by simp only[World.size_alloc];omega),Below.heap_alloc _ _ _ (by simp)];have:=heap_alloc_new (wd.alloc (.cells (madeCells #[.int .i64 0,.slice none 0 0] (O.length*2)) 150)) (.cells #[.slice (some ⟨wd.heap.size,0,none⟩) O.length O.length] 91);simpa only[World.size_alloc] using this
 have f3:fj we (wd.heap.size+1+1) 4 O.length (λ _=>.bool false):=by
  show _=_
  rw[<-hwe,Below.heap_alloc _ _ _ (by simp),<-zlv];have:=heap_alloc_new ((wd.alloc (.cells (madeCells #[.int .i64 0,.slice none 0 0] (O.length*2)) 150)).alloc (.cells #[.slice (some ⟨wd.heap.size,0,none⟩) O.length O.length] 91)) (.cells (madeCells #[.bool false] O.length) 4);simpa only[World.size_alloc] using this
 have f4:we.heap[wd.heap.size+1+1+1]?=some (.cells #[.slice (some ⟨wd.heap.size+1+1,0,none⟩) O.length O.length] 143 (0,0)):=by
  rw[<-hwe];have:=heap_alloc_new (((wd.alloc (.cells (madeCells #[.int .i64 0,.slice none 0 0] (O.length*2)) 150)).alloc (.cells #[.slice (some ⟨wd.heap.size,0,none⟩) O.length O.length] 91)).alloc (.cells (madeCells #[.bool false] O.length) 4)) (.cells #[.slice (some ⟨wd.heap.size+1+1,0,none⟩) O.length O.length] 143);simpa only[World.size_alloc] using this
 have se:we.heap.size=wd.heap.size+1+1+1+1:=by rw[<-hwe];simp
 clear hwe Pa Gl Qr;have Pz:=zA OM;have JQ:=(zB ((ke.block _ (by omega)).trans (zA JC)) 0).1;simp only[List.getElem?_toArray,List.getElem?_cons_zero] at JQ;have HF:=zC (And.intro f1 (And.intro f2 (And.intro f3 (And.intro f4 se))));have Sd:=zC ke;clear f1 f2 f3 f4 se ke Pz;have mD:=zC (z6p we ao O.length co);go_wp2_with (go_at_call 68;refine (zA mD).mono ?_;rintro en wf ⟨rfl,LD⟩);subst LD;generalize dY:World.alloc we _=w1;have hF:=zA HF;have Pz:=zA OM;have Xu:=zA B5;have oC:=zA lV;have k1:Below we.heap.size we w1:=by rw[<-dY];exact (Below.refl we.heap.size we).alloc L9 _
 have s1:w1.heap.size=wd.heap.size+1+1+1+1+1:=by rw[<-dY,World.size_alloc,hF.2.2.2.2]
 have Vf:w1.heap[we.heap.size]?=some (.cells #[.slice ao O.length co] 141 (0,0)):=by rw[<-dY];exact heap_alloc_new we _
 have NA:Below wd.heap.size wd w1:=(zA Sd).trans (k1.mono (zA Sd).size);have xu:Below wb.heap.size wb w1:=(zA Oo).trans (NA.mono (zA Oo).size);have LU:Below w0.heap.size w0 w1:=(zA rR).trans (xu.mono (zA rR).size);have Ex:w1.ownsRow wb.heap.size 148 7 (.slice ao O.length co) O.length (O.flatMap ez):=zJ (zA gC) NA (λ g e=>((zA gC).lt g e).2);have Rg:=(zA Oo).size;have Rf:=(zA rR).size;have dq:EU w ar cr rs asked kk ao co wb.heap.size wa.heap.size wc.heap.size wd.heap.size O w1:=
  ⟨(LU.block _ (by omega)).trans (zA WT),(LU.block _ (by omega)).trans (zA WU),(LU.block _ (by omega)).trans (zA WW),(xu.block _ (by omega)).trans (zA WX),(NA.block _ (by omega)).trans (zA JC),(k1.block _ (by omega)).trans hF.2.1,(k1.block _ (by omega)).trans hF.2.2.2.1,Ex,(zA dr).trans (LU.mono (zA dr).size),by omega,by omega,by omega,λ g e=>((zA gC).lt g e).2,by omega⟩
 have Um:j9 w ar cr rs asked kk ao co wb.heap.size wa.heap.size wc.heap.size wd.heap.size O (rea O) w1 (qX O kk asked (rea O) []) (zfc O kk asked (rea O) []) w1:=
  ⟨dq,qH.refl _ _,(hF.2.2.1).block (k1.block _ (by omega)),⟨λ _=>.slice none 0 0,(hF.1.block (k1.block _ (by omega))).eq (λ i hi=>by simp[zzb,zfc]),λ i h=>by cases h⟩,by omega⟩
 have ly:=λ n=>zxu (ONo wd.heap.size) n w1 we.heap.size wb.heap.size ao co O Vf Ex (by unfold ONo;omega) (λ g e=>by have:=((zA gC).lt g e).2;unfold ONo;omega) (by omega)
 have MI:=zC Um;have ox:=zC s1;clear dY hF Pz Xu oC k1 Vf NA xu LU Ex Rg Rf dq JQ Um;refine (wpIn_wide (n:=5)).1 ?_;refine wpIn_rangeFunc_ownH (α:=Fin O.length) rfl (by omega) (gf:=107) (lb:=#[.pointer (some ⟨we.heap.size,0,none⟩)]) rfl trivial (enters_of Tryz.func107 (by kernel_rfl) rfl)
  (ly _) (λ h1 h2=>qH.trans h1 h2) (λ W l o o' _ hl hc EI=>zhe W l o o' hl hc EI) B9 (λ _=>rfl)
  (λ (pre:List (Fin O.length)) (W:W8)=>j9 w ar cr rs asked kk ao co wb.heap.size wa.heap.size wc.heap.size wd.heap.size O (rea O) w1 (qX O kk asked (rea O) pre) (zfc O kk asked (rea O) pre) W)
  (λ (_:Code) (_:List (Fin O.length)) (_:W8)=>False)
  (λ pre A B row hs hg hr=>hs.grown hg (λ i e=>hr i e))
  (λ c pre A B row hs hg hr=>hs)
  (zA MI)
  (λ (x:Fin O.length) (a':Act) (W:W8)=>∃ Bx,w1.heap.size<=Bx/\PV W Bx O[x]/\a'={ tmps:=List.toArray ((Value.slice ar rs.length cr)::(Value.map (some tb))::(Value.map (some kb))::(Value.agg ct)::(Value.pointer (some ⟨w.heap.size,0,none⟩))::undef::undef::(Value.pointer (some ⟨w.heap.size+1,0,none⟩))::(Value.pointer (some ⟨w.heap.size+1+1,0,none⟩))::(Value.pointer (some ⟨wa.heap.size,0,none⟩))::(Value.pointer (some ⟨wc.heap.size,0,none⟩))::(Value.pointer (some ⟨wd.heap.size+1,0,none⟩))::(Value.pointer (some ⟨wd.heap.size+1+1+1,0,none⟩))::(Value.int .i64 (x.1:Nat))::(Value.pointer (some ⟨Bx,0,none⟩))::undef::undef::(Value.map (some tb))::(Value.map (some kb))::(thV asked)::(Value.int .i64 (kk:Nat))::(Value.map (some kb))::(Value.map (some tb))::(Value.slice ao O.length co)::(Value.slice ao O.length co)::(Value.int .i64 (O.length:Nat))::(Value.slice (some ⟨wd.heap.size,0,none⟩) O.length O.length)::(Value.slice ao O.length co)::(Value.int .i64 (O.length:Nat))::(Value.slice (some ⟨wd.heap.size+1+1,0,none⟩) O.length O.length)::(Value.slice ao O.length co)::(Value.func (.func 107) #[] #[.pointer (some ⟨we.heap.size,0,none⟩)])::(Value.int .i64 (x.1:Nat))::(Value.agg #[.string O[x].t.p,.string (xW O[x].t.ts 0),.string (xW O[x].t.ts 1),.string (xW O[x].t.ts 2),.string (xW O[x].t.ts 3),.int .i64 O[x].s,.int .i64 O[x].h])::List.replicate 44 undef),defers:=[] })
  (λ x a' _ A B row hs hg hr=>let ⟨Bx,h1,h2,h3⟩:=hs;⟨Bx,h1,h2.grown hg (λ i e=>(hr i e).2),h3⟩)
  ?assign ?body ?done (λ D c pre W _ _ h=>h.elim)
 case assign=>
  intro l pre x W K2 hI ur;have wR:=zC ur;have HI:=zC hI;have hz:w1.heap.size<=W.heap.size:=hI.kp.size;clear ur hI MI ly;unfold plV ez
  gi_wp2
  exact zA wR _ _ ((KeepsOthers.alloc _ _).from _) ((qH.refl _ _).alloc _) ((zA HI).grown (World.grownBy_alloc W _ none) (λ _ e=>by cases e)) ⟨W.heap.size,hz,heap_alloc_new W _,rfl⟩
 case body=>
  rintro l pre x a' W T5-hI ⟨Bx,S8,Nl,rfl⟩ -;clear ly MI;have hx:=x.2;have hxi:(x.1:Int)<O.length:=by omega
  have UF:O[x.1]?=some O[x]:=List.getElem?_eq_getElem hx;have oO:iD ps O[x].t:=by
   obtain⟨q,hq,e⟩:=List.mem_map.1 ((zA px).mem_iff.1 (List.getElem_mem hx))
   show iD ps O[x.1].t
   rw[<-e];exact zA HK q hq
  have oH:=(((zA Cp) O (zA px) (zA uM)).least x.1 hx);have oH:E0 (ze2 O[x] O 0) rs O[x].t (rea O x.1).1 (rea O x.1).2:=oH;generalize O[x]=p at *;have c9:=(zB hI.box.y9 0).1;have gy:=(zB hI.box.Hg 0).1;simp only[List.getElem?_toArray,List.getElem?_cons_zero] at c9 gy;have t7:(zmx (.pointer (some ⟨w.heap.size+1,0,none⟩))).run Tryz.prog W=.ok (.agg #[.string asked.p,.string (xW asked.ts 0),.string (xW asked.ts 1),.string (xW asked.ts 2),.string (xW asked.ts 3)]) W:=hI.box.y7.load;have Zo:=Nl.loadT;have p5:=(zB Nl 5).1;simp only[ez,List.getElem?_toArray,List.getElem?_cons_zero,List.getElem?_cons_succ] at p5;have nc:=hI.nJ.cell hx;have nf:=hI.nJ.fz x.1;obtain⟨be,iE⟩:∃ be,be=decide (p.t=asked):=⟨_,rfl⟩;have hs:∀ u:W8,(Op.equalIn 10000 88 (.agg #[.string p.t.p,.string (xW p.t.ts 0),.string (xW p.t.ts 1),.string (xW p.t.ts 2),.string (xW p.t.ts 3)]) (.agg #[.string asked.p,.string (xW asked.ts 0),.string (xW asked.ts 1),.string (xW asked.ts 2),.string (xW asked.ts 3)])).run Tryz.prog u=.ok be u:=λ u=>by
   rw[iE,<-yer oO.ok bR];exact yeb u p.t.p (xW p.t.ts 0) (xW p.t.ts 1) (xW p.t.ts 2) (xW p.t.ts 3) asked.p (xW asked.ts 0) (xW asked.ts 1) (xW asked.ts 2) (xW asked.ts 3)
  have Io:∀ (u:W8) (xs ys:Array Value),(eqGuard .eql 88 (.tmp 40) (.tmp 41) (.agg xs) (.agg ys)).run Tryz.prog u=.ok () u:=λ u xs ys=>run_eqGuard_agg u _ _ _ _ _ _ (by kernel_rfl)
  have DR:=zC iE;clear iE;have HI:=zC hI;have MG:=zC Nl;have OU:=zC oO;have Ow:=zC oH;have WZ:=zC UF;clear hI Nl oO oH UF
  have CC:=zC (show ∀ b:Bool,b=(decide (p.s<kk)||decide (p.t=asked))->zdr O kk asked (qX O kk asked (rea O) pre) x.1=if b then zbg (qX O kk asked (rea O) pre) x.1 true else qX O kk asked (rea O) pre from by
   intro b hb;unfold zdr yd5;rw[zA WZ,hb]
   rfl)
  have Kv:p.s<kk\/(¬ p.s<kk/\be=true)\/(¬ p.s<kk/\be=false):=by
   cases be <;> by_cases h:p.s<kk <;> simp[h]
  rcases Kv with h1 | ⟨h1,h2⟩ | ⟨h1,h2⟩
  all_goals gi_upto_region 10 with fail
  have ia:=zA CC true (by simp[h1]);have fu:=(zA HI).own x.1;rw[if_pos rfl] at ia;rw[<-ia] at fu;have iA:=(ug.refl wd.heap.size W).set (j:=x.1) (.inr rfl) (.bool true);have dV:PV (W.setCell ⟨wd.heap.size+1+1,x.1,none⟩ (.bool true)) Bx p:=(Below.heap_setCell _ _ _ _ (by simp;omega)).trans (zA MG);generalize W.setCell ⟨wd.heap.size+1+1,x.1,none⟩ (.bool true)=W2 at *
  rotate_left
  have ia:=zA CC true (by rw[<-zA DR,h2];simp);have fu:=(zA HI).own x.1;rw[if_pos rfl] at ia;rw[<-ia] at fu;have iA:=(ug.refl wd.heap.size W).set (j:=x.1) (.inr rfl) (.bool true);have dV:PV (W.setCell ⟨wd.heap.size+1+1,x.1,none⟩ (.bool true)) Bx p:=(Below.heap_setCell _ _ _ _ (by simp;omega)).trans (zA MG);generalize W.setCell ⟨wd.heap.size+1+1,x.1,none⟩ (.bool true)=W2 at *
  rotate_left
  have ia:=zA CC false (by rw[<-zA DR,h2];simp[h1]);have fu:=zA HI;rw[if_neg (by simp)] at ia;rw[<-ia] at fu;have dV:=zA MG;obtain⟨W2,PC⟩:∃ W2,W2=W:=⟨_,rfl⟩;have iA:ug wd.heap.size W W2:=by rw[PC];exact ug.refl _ _
  rw[<-PC] at fu dV ⊢;clear PC
  rotate_left
  all_goals
   clear c9 gy t7 Zo p5 nc nf hs Io ia h1 CC DR;have mN:=zgc O kk asked (rea O) pre x;have TL:=zrd O kk asked (rea O) pre x;rw[zcu] at mN;generalize zdr O kk asked (qX O kk asked (rea O) pre) x.1=B1 at *;have I7:=zC mN;have Ct:=zC TL;clear mN TL;have gy:=(zB fu.box.Hg 0).1;simp only[List.getElem?_toArray,List.getElem?_cons_zero] at gy;have nc:=fu.nJ.cell hx;have py:=zC fu;have CG:=zC dV;have Fm:=zC iA;clear fu dV iA
   cases aL:B1 x.1 with
   | false=>
    rw[aL] at nc;have fN:=zC aL;clear aL
    gi_wp2
    have KD:=j9.ends (zA HI) (zA py) (zA Fm);refine⟨KD.1,KD.2,?_⟩
    show j9 w ar cr rs asked kk ao co wb.heap.size wa.heap.size wc.heap.size wd.heap.size O (rea O) w1 (qX O kk asked (rea O) (pre++[x])) (zfc O kk asked (rea O) (pre++[x])) W2
    rw[zA I7,zA Ct,zA fN,if_neg (by simp),if_neg (by simp)];exact zA py
   | true=>
    rw[aL] at nc;have fN:=zC aL;clear aL
    gi_upto_region 11 with fail
    obtain⟨S',CO⟩:∃ S':W8->Prop,S'=λ V=>∀ i,i<W2.heap.size->i≠wd.heap.size->V.heap[i]?=W2.heap[i]?:=⟨_,rfl⟩
    have fu:=zA py;have ZA:=(Array.getElem?_eq_some_iff.1 fu.box.Hg).1;have PI:=fu.box.l9;have Kr:=fu.box.A6;have PJ:=fu.box.lD
    have fM:=zC (λ (V:W8) (hV:S' V)=>(show V.cell? ⟨wd.heap.size+1,0,none⟩=some (.slice (some ⟨wd.heap.size,0,none⟩) O.length O.length)/\V.cell? ⟨w.heap.size,0,none⟩=some (.slice ar rs.length cr)/\V.cell? ⟨wc.heap.size,0,none⟩=some (.slice ao O.length co)/\PV V Bx p from by
     rw[CO] at hV;have dV:=zA CG
     exact⟨(zB ((hV _ (by omega) (by omega)).trans fu.box.NL) 0).1,(zB ((hV _ (by omega) (by omega)).trans fu.box.y4) 0).1,(zB ((hV _ (by omega) (by omega)).trans fu.box.Vg) 0).1,(hV _ dV.lt (by omega)).trans dV⟩))
    have Fw:=zC (λ (V:W8) (hV:Below W2.heap.size W2 V)=>(show S' V from by rw[CO];exact λ i hi _=>hV.block i hi));have Fy:=zC (λ (V:W8) (hV:S' V) (j:Nat) (v:Value)=>(show S' (V.setCell ⟨wd.heap.size,j,none⟩ v) from by rw[CO] at hV ⊢;exact λ i hi hn=>(Below.heap_setCell _ _ _ _ (by simpa using hn)).trans (hV i hi hn)))
    have Sv:=zC (λ (V:W8) (hV:Below W2.heap.size W2 V)=>zzc ps V base wb.heap.size ar ao cr co rs O p ((zA HR).below (fu.box.k.trans (hV.mono fu.box.k.size))) (zJ fu.box.ro hV (λ g e=>(fu.box.ro.lt g e).2)) (zA HG) (λ q hq=>by
     obtain⟨y,hy,e⟩:=List.mem_map.1 ((zA px).mem_iff.1 hq);rw[<-e]
     exact zA HK y hy) (zA OU) (by
     have h3:(O.map (·.t)).Perm ((K.map (zno S)).map (·.t)):=(zA px).map _;refine h3.symm.nodup ?_;rw[List.map_map]
     exact zfl xK (by rw[List.map_map];exact zA B2)) (by omega))
    have oC:=zA Fw W2.drew B9.drew;clear CO fu ZA PI Kr PJ gy nc;refine zjy S' (by kernel_rfl) (by kernel_rfl) (λ ⟨_,_,h⟩=>h) ?_;refine K9 0 (.slice (some ⟨wd.heap.size,0,none⟩) O.length O.length) rfl (Or.inl ⟨by rfl,λ V hV=>by obtain⟨m0,m1,m2,m3⟩:=zA fM V hV;go_simp⟩) oC ?_;refine K9 1 (.int .i64 (x.1:Nat)) rfl (Or.inl ⟨by rfl,λ V _=>by go_simp⟩) oC ?_;refine K9 2 (.slice ar rs.length cr) rfl (Or.inl ⟨by rfl,λ V hV=>by obtain⟨m0,m1,m2,m3⟩:=zA fM V hV;go_simp⟩) oC ?_;refine K9 3 (.slice ao O.length co) rfl (Or.inl ⟨by rfl,λ V hV=>by obtain⟨m0,m1,m2,m3⟩:=zA fM V hV;go_simp⟩) oC ?_;refine K9 4 (.agg #[.string p.t.p,.string (xW p.t.ts 0),.string (xW p.t.ts 1),.string (xW p.t.ts 2),.string (xW p.t.ts 3),.int .i64 p.s,.int .i64 p.h]) rfl (Or.inl ⟨by rfl,λ V hV=>by obtain⟨m0,m1,m2,m3⟩:=zA fM V hV;have n0:=(zB m3 0).1;have n1:=(zB m3 1).1;have n2:=(zB m3 2).1;have n3:=(zB m3 3).1;have n4:=(zB m3 4).1;have n5:=(zB m3 5).1;have n6:=(zB m3 6).1;simp only[ez,List.getElem?_toArray,List.getElem?_cons_zero,List.getElem?_cons_succ] at n0 n1 n2 n3 n4 n5 n6;go_simp⟩) oC ?_;refine wpAnyH_ready (rs:=[5]) (by kernel_rfl) (by simp) ?_;refine AllReadyH.cons rfl (λ K hK=>?_) AllReadyH.nil
    go_simp
    refine (zA Sv _ B9.drew).mono ?_;rintro en w4 ⟨bZ,i4,Rr,a4,c4,rfl,mV,KS⟩;have hle:=zA Ow;have Yf:i4=(rea O x.1).1/\Rr=(rea O x.1).2:=by
     rcases KS with h | h
     ·exact h.uniq hle
     ·have:=hle.mem;rw[h _ (List.getElem_mem hle.lt)] at this
      cases this
    obtain⟨rfl,rfl⟩:=Yf;have dN:=yA bZ;have uu:=zA Fw w4 dN;have il:=(zA py).below dN;have mV:=zG (base':=w1.heap.size) mV (Nat.le_trans (zA HI).kp.size (zA Fm).size);obtain⟨V4,f4,-⟩:=il.vt;have U4:=f4.cell (i:=x.1*2) (by omega);have Zj:=f4.cell (i:=x.1*2+1) (by omega);have Rq:=f4.fz (x.1*2);have Zk:=f4.fz (x.1*2+1);have Sb:=zC ((zA Fm).below dN);have B3:=zC il;have Sm:=zC mV;refine hK.out _ _ uu (λ _=>?_);clear hK K bZ KS hle il mV f4;refine K9 6 (.pointer (some ⟨wd.heap.size,x.1*2,none⟩)) rfl (Or.inl ⟨by rfl,λ V _=>by go_simp⟩) uu ?_;refine wpAnyH_ready (rs:=[7]) (by kernel_rfl) (by simp) ?_;refine AllReadyH.cons rfl (λ K hK=>?_) AllReadyH.nil
    go_simp
    refine hK.out _ _ (zA Fy _ (zA Fy _ uu _ _) _ _) (λ _=>?_);clear hK K;refine wpAnyH_done (by kernel_rfl) ?_ _;have jl:=(zA B3).put x.1 hx (zA Sm);have my:=((zA Sb).set (b:=wd.heap.size) (j:=x.1*2) (.inl rfl) (.int .i64 ((rea O x.1).1:Nat))).set (b:=wd.heap.size) (j:=x.1*2+1) (.inl rfl) (.slice a4 (rea O x.1).2.length c4);have T7:=((zA Cp) O (zA px) (zA uM)).len x.1 hx;have Eo:=((zA Cp) O (zA px) (zA uM)).low x.1 hx;clear U4 Zj Rq Zk B3 Sm Sb dN uu oC fM Fw Fy Sv;generalize (w4.setCell ⟨wd.heap.size,x.1*2,none⟩ (.int .i64 ((rea O x.1).1:Nat))).setCell ⟨wd.heap.size,x.1*2+1,none⟩ (.slice a4 (rea O x.1).2.length c4)=w5 at jl my ⊢;obtain⟨Dk,Uc,TF⟩:=jl;have ll:=(zB Dk.box.NL 0).1;simp only[List.getElem?_toArray,List.getElem?_cons_zero] at ll;generalize aB:(rea O x.1).2=row at *;have H0:=zC (show j9 w ar cr rs asked kk ao co wb.heap.size wa.heap.size wc.heap.size wd.heap.size O (rea O) w1 (vR B1 (row.take 0)) (zbg (zfc O kk asked (rea O) pre) x.1 true) w5/\w5.ownsRow w1.heap.size 3 1 (.slice a4 row.length c4) row.length (ew row)/\ug wd.heap.size W w5 from ⟨Dk,Uc,my⟩);have Wc:=zC Eo;clear Dk Uc my Eo
    gi_upto_region 13 with fail
    gi_loopg [65] row.length (λ gg i wr=>∃ k:Nat,k<=row.length/\gg=row.length-k/\i=.int .i64 k/\(j9 w ar cr rs asked kk ao co wb.heap.size wa.heap.size wc.heap.size wd.heap.size O (rea O) w1 (vR B1 (row.take k)) (zbg (zfc O kk asked (rea O) pre) x.1 true) wr/\wr.ownsRow w1.heap.size 3 1 (.slice a4 row.length c4) row.length (ew row)/\ug wd.heap.size W wr))
    exact⟨0,Nat.zero_le _,rfl,rfl,zA H0⟩
    case round=>
     clear H0 ll TF;obtain⟨k,hk,eD,rfl,ax,oM,lz⟩:=hrel
     by_cases aF:k<row.length
     ·obtain⟨g,rfl,aZ,hcg⟩:=z3v oM k aF;have gy:=(zB ax.box.Hg 0).1;simp only[List.getElem?_toArray,List.getElem?_cons_zero] at gy;have hy:=zA Wc row[k] (List.getElem_mem aF);have YU:((row[k]:Nat):Int)<O.length:=(by omega);have nc:=ax.nJ.cell (i:=row[k]) (by omega);have nf:=ax.nJ.fz row[k];have nu:(k:Int)<row.length:=(by omega);have bT:=zC ax;have MJ:=zC oM;have Fl:=zC lz;clear ax oM lz
      gi_wp2
      gi_roundg (row.length-(k+1))
      case measure=>omega
      case rel=>
       refine⟨k+1,by omega,rfl,by go_num,?_,?_,(zA Fl).set (.inr rfl) _⟩
       ·rw[zia aF];exact (zA bT).own row[k]
       ·exact zZ (zA MJ) (λ g e=>by have:=((zA MJ).lt g e).1;exact Below.heap_setCell _ _ _ _ (by simp;omega))
     ·have Gb:k=row.length:=(by omega);subst Gb;have nu:¬ ((row.length:Int)<row.length):=(by omega);have bT:=zC ax;have Fl:=zC lz;clear ax oM lz s1
      gi_wp2
      have KD:=j9.ends (zA HI) (zA bT) (zA Fl);refine⟨KD.1,KD.2,?_⟩
      show j9 w ar cr rs asked kk ao co wb.heap.size wa.heap.size wc.heap.size wd.heap.size O (rea O) w1 (qX O kk asked (rea O) (pre++[x])) (zfc O kk asked (rea O) (pre++[x])) _
      rw[zA I7,zA Ct,zA fN,if_pos rfl,if_pos rfl];have:=zA bT;rw[List.take_length] at this;exact this
 case done=>
  rintro D xs W hD YS hI kL;subst YS;have rW:O.length<=maxLen:=by unfold maxLen;omega
  have hA:=(zA Cp) O (zA px) (zA uM);obtain⟨bG,mz,La,Iv⟩:=hI.nodes rW;have TK:=zn1 (k:=kk) (asked:=asked) hA.low O.length 0 (by omega);have Lc:bG.map lk=qF O.length (rea O) (qX O kk asked (rea O) (qI O.length 0)):=by
   rw[Iv];unfold qF;apply List.map_congr_left;intro i hi;rw[TK i (List.mem_range.1 hi)];simp
  have mO:∀ y∈bG,y.fr.length<=3/\∀ z∈y.fr,z<bG.length:=by
   intro y hy;have:lk y∈bG.map lk:=List.mem_map_of_mem hy;rw[Iv] at this;obtain⟨i,hi,e⟩:=List.mem_map.1 this;have hi:=List.mem_range.1 hi;have e2:y.fr=(if zfc O kk asked (rea O) (qI O.length 0) i=true then rea O i else (0,[])).2:=(by rw[e];rfl);rw[e2]
   split
   ·exact⟨hA.len i hi,λ z hz=>by have:=hA.low i hi z hz;omega⟩
   ·exact⟨by simp,λ z hz=>by cases hz⟩
  have uL:=zC (λ (V:W8) (hV:Below W.heap.size W V)=>z4r V wd.heap.size (wd.heap.size+1+1) (some ⟨wd.heap.size,0,none⟩) O.length bG (qX O kk asked (rea O) (qI O.length 0)) (by rw[mz];exact La.below hV) (by rw[mz];exact hI.nJ.below hV) (by omega) mO);rw[mz,Lc] at uL;have HI:=zC hI;have HD:=zC hD;have yi:=zC kL;have hk:=hI.kp.size;have Nd:=hI.box.l9;have Ym:=hI.box.A6;have hlD:=hI.box.lD
  have HA:=zC (λ (V:W8) (hV:∀ i,i<W.heap.size->i≠w.heap.size+1+1->V.heap[i]?=W.heap[i]?)=>(show V.cell? ⟨wa.heap.size,0,none⟩=some (.int .i64 (kk:Nat))/\V.cell? ⟨wd.heap.size+1,0,none⟩=some (.slice (some ⟨wd.heap.size,0,none⟩) O.length O.length)/\V.cell? ⟨wd.heap.size+1+1+1,0,none⟩=some (.slice (some ⟨wd.heap.size+1+1,0,none⟩) O.length O.length) from
   ⟨(zB ((hV _ (by omega) (by omega)).trans hI.box.y9) 0).1,(zB ((hV _ (by omega) (by omega)).trans hI.box.NL) 0).1,(zB ((hV _ (by omega) (by omega)).trans hI.box.Hg) 0).1⟩))
  have D8:=zA HA W.drew (λ i _ _=>rfl);have oP:w.heap.size+1+1<W.heap.size:=by omega
  clear hI hD kL La Iv Lc mO TK hA ly MI s1;go_upto_region 17 with fail
  go_region_held3 (λ V=>V.cell? ⟨wa.heap.size,0,none⟩=some (.int .i64 (kk:Nat))/\V.cell? ⟨wd.heap.size+1,0,none⟩=some (.slice (some ⟨wd.heap.size,0,none⟩) O.length O.length)/\V.cell? ⟨wd.heap.size+1+1+1,0,none⟩=some (.slice (some ⟨wd.heap.size+1+1,0,none⟩) O.length O.length)) ((refine zA HA _ ?_;first | exact uu | exact (λ i _ _=>rfl) | exact (λ i hi hn=>by rw[Below.heap_setCell _ _ _ _ (by simpa using hn),Below.heap_setCell _ _ _ _ (by simpa using hn)];exact uu i hi hn))) ((go_at_call 70;refine (zA uL _ (by exact B9.drew)).mono ?_;rintro en w4 ⟨out,a4,c4,rfl,vl,Cg,bZ⟩;have dN:=yA bZ;have uu:∀ i,i<W.heap.size->i≠w.heap.size+1+1->w4.heap[i]?=W.heap[i]?:=(λ i hi _=>dN.block i hi);obtain⟨r0,f0⟩:=zB ((dN.block _ oP).trans (zA HI).box.y8) 0;obtain⟨r1,f1⟩:=zB ((dN.block _ oP).trans (zA HI).box.y8) 1;simp only[List.getElem?_toArray,List.getElem?_cons_zero,List.getElem?_cons_succ] at r0 r1;have Wj:=zC vl;have OC:=zC Cg;clear vl Cg bZ))
  obtain⟨q0,q1⟩:=zj8 r0 r1 (.int .i64 (kk:Nat)) (.slice a4 out.length c4);have lY:∀ i,i≠w.heap.size+1+1->((w4.setCell ⟨w.heap.size+1+1,0,none⟩ (.int .i64 (kk:Nat))).setCell ⟨w.heap.size+1+1,1,none⟩ (.slice a4 out.length c4)).heap[i]?=w4.heap[i]?:=λ i hi=>by rw[Below.heap_setCell _ _ _ _ (by simpa using hi),Below.heap_setCell _ _ _ _ (by simpa using hi)]
  go_wp2_with fail;refine zbm [D] _ (by simp) (λ E hE=>?_) (λ w' hs=>?_)
  ·rw[List.mem_singleton.1 hE];have h1:=zA yi;have h2:=zA HD;have h3:=zA ox;rw[lY D (by omega),dN.block D (Array.getElem?_eq_some_iff.1 h1).1];exact h1
  ·have h1:=zA yi;have h2:=zA HD;have h3:=zA ox;have hDl:=(Array.getElem?_eq_some_iff.1 h1).1;have hI:=zA HI;have q2:=(World.cell?_of_block (a:=⟨w.heap.size+1+1,0,none⟩) (hs.block (w.heap.size+1+1) (by simp;omega))).trans q0;have q3:=(World.cell?_of_block (a:=⟨w.heap.size+1+1,1,none⟩) (hs.block (w.heap.size+1+1) (by simp;omega))).trans q1;refine⟨.agg #[.int .i64 (kk:Nat),.slice a4 out.length c4],by simp[results,Tryz.results42,go_sem,q2,q3],?_⟩;have dY:=hI.box.k.size;have vl:=zA Wj;have dK:∀ i,W.heap.size<=i->w'.heap[i]?=w4.heap[i]?:=λ i hi=>(hs.block i (by simp;omega)).trans (lY i (by omega))
   rw[zA Ot];refine⟨O,zA px,zA uM,out,a4,c4,rfl,⟨zZ (zG vl.row dY) (λ g e=>dK g (vl.row.lt g e).1),λ y hy=>zZ (zG (vl.each y hy) dY) (λ g e=>dK g ((vl.each y hy).lt g e).1)⟩,zA OC,?_⟩;exact⟨hs.os.trans (dN.os.trans hI.box.k.os),hs.tape.trans (dN.tape.trans hI.box.k.tape),hs.output.trans (dN.output.trans hI.box.k.output),by rw[hs.size];simpa using Nat.le_trans dY dN.size,λ i hi=>(hs.block i (by simp;omega)).trans ((lY i (by omega)).trans ((dN.block i (by omega)).trans (hI.box.k.block i hi)))⟩
end
end Go.Proofs.YtldkpahaocjdpaaGreat
