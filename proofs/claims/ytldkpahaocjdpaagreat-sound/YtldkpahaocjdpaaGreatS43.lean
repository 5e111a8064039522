/-
  witness.Of: the witness that shows whether a thing follows.
-/
import Derived.Test.YtldkpahaocjdpaaGreatS42
set_option maxHeartbeats 16000000
set_option maxRecDepth 1000000
namespace Go.Proofs.YtldkpahaocjdpaaGreat
section
open Go.RowKit Go.Maps
attribute [local go_sem ↓] to_tLoad to_tStore to_tAlloc thV_cells
attribute [local go_sem] Oper.semAt_some
attribute [local go_sem] tStore_new run_tAlloc
structure OfArg (ps:P9)(S:B8->Nat)(rs:List PR)(K:List (Th × Nat))(O:List Pl)(rea:Nat->Nat × List Nat):Prop where
 perm:O.Perm (K.map (plOf S))
 least:∀ (i:Nat) (h:i<O.length),gD (numU O[i] O 0) rs O[i].t (rea i).1 (rea i).2
 len:∀ (i:Nat),i<O.length->(rea i).2.length<=3
 low:∀ (i:Nat),i<O.length->∀ x∈(rea i).2,x<i
def OfPost2 (w:W8)(k:Nat)(ns:List (Nat × List Nat))(e:Ending)(w':W8):Prop:=
 ∃ (out:List ND) (a:O8) (c:Nat),e=.returned (.agg #[.int .i64 (k:Nat),.slice a out.length c])/\bN w' w.heap.size (.slice a out.length c) out/\out.map dW=ns/\Below w.heap.size w w'
theorem wof_any (ps:P9)(w:W8)(base tb n kb:Nat)(ar:O8)(cr:Nat)(rs:List PR)(S:B8->Nat)(K:List (Th × Nat))(asked:Th)(rea:List Pl->Nat->Nat × List Nat)(hr:bQ w base (.slice ar rs.length cr) rs)(ht:SMap Tryz.prog 9 w tb n (stV ps S))(hm:aP w kb K)(hg:∀ r∈rs,bu ps r)(hK:∀ p∈K,eX ps p.1)(hl:K.length<=50)(hS:∀ p:B8,(numOf ps p).isSome=true->S p<=1000000)(bZ:ThOk asked)(IN:S asked.1<=1000000)(dC:(K.map λ p=>thText p.1).Nodup)(xV:∀ O:List Pl,O.Perm (K.map (plOf S))->(O.Pairwise λ p q=>lessPl p q=true)->OfArg ps S rs K O (rea O)):
  Calls Tryz.prog 42 #[.slice ar rs.length cr,.map (some tb),.map (some kb),thV asked] w λ e w'=>∃ O:List Pl,O.Perm (K.map (plOf S))/\(O.Pairwise λ p q=>lessPl p q=true)/\OfPost2 w (bf ps S K asked) (renum (needs O (bf ps S K asked) asked (rea O) (backs O.length 0)) (nodesOf O.length (rea O) (needs O (bf ps S K asked) asked (rea O) (backs O.length 0))) 0 (λ _=>0) []) e w':=by
 have gq:=ht.lt;have ed:=hm.lt;have HR:=hide hr;have HT:=hide ht;have HM:=hide hm;have HG:=hide hg;have HK:=hide hK;have vu:=hide hS;have jw:=hide dC;have qt:=hide xV;have Ao:=own_max hr.row;unfold maxLen at Ao;obtain⟨ct,eQ⟩:∃ ct,ct=(aw asked).toArray:=⟨_,rfl⟩;have fH:=hide eQ;unfold thV;rw[<-eQ];clear hr ht hm hg hK hS dC xV eQ;refine callsIn_wide.1 (callsIn_of_wp_marks (F:=Fence.wide) (n:=5) Tryz.func42 rfl trivial (wpIn_wide.2 ?_) rfl);simp only[Tryz.ntmps42,List.size_toArray,List.length_cons,List.length_nil,Nat.reduceAdd,Nat.reduceSub,Array.replicate_succ,Array.replicate_zero,List.push_toArray,List.append_toArray,List.nil_append,List.cons_append];go_upto_region 1 with fail;generalize hw0:World.alloc (World.alloc (World.alloc w _) _) _=w0;have k0:Below w.heap.size w w0:=by
  rw[<-hw0];exact (((Below.refl w.heap.size w).alloc L9 _).alloc (by simp) _).alloc (by simp only[World.size_alloc];omega) _
 have x4:w0.heap[w.heap.size]?=some (.cells #[.slice ar rs.length cr] 75 (0,0)):=by
  rw[<-hw0,Below.heap_alloc _ _ _ (by simp only[World.size_alloc];omega),Below.heap_alloc _ _ _ (by simp)];exact heap_alloc_new w _
 have x7:TV w0 (w.heap.size+1) asked:=by
  rw[<-hw0,ad fH]
  show _=_
  rw[Below.heap_alloc _ _ _ (by simp)];have:=heap_alloc_new (w.alloc (.cells #[.slice ar rs.length cr] 75)) (.cells (aw asked).toArray 88);rw[World.size_alloc] at this;exact this
 have x8:w0.heap[w.heap.size+1+1]?=some (.cells #[.int .i64 0,.slice none 0 0] 93 (0,0)):=by
  rw[<-hw0];have:=heap_alloc_new ((w.alloc (.cells #[.slice ar rs.length cr] 75)).alloc (.cells ct 88)) (.cells #[.int .i64 0,.slice none 0 0] 93);rw[World.size_alloc,World.size_alloc] at this;exact this
 have s0:w0.heap.size=w.heap.size+1+1+1:=by rw[<-hw0];simp
 clear hw0;have t3:=x7.load;have HW:=hide (whole_any w0 tb n kb ps S K asked ((ad HT).block (k0.block tb gq)) ((ad HM).block (k0.block kb ed)) bZ IN);generalize hkk0:bf ps S K asked=kk at *;have vq:=hide hkk0;clear hkk0;have cg:=hide k0;have Ie:=hide x4;have Ih:=hide x7;have Ii:=hide x8;have fS:=hide s0;clear k0 x4 x7 x8 s0;go_upto_region 2 with (go_at_call 66;refine (ad HW).mono ?_;rintro en wa ⟨rfl,ue⟩;have rJ:=hide ue;clear ue);generalize sW:World.alloc wa _=wb;have u4:Below w0.heap.size w0 wb:=by rw[<-sW];exact (ad rJ).alloc (ad rJ).size _
 have x9:wb.heap[wa.heap.size]?=some (.cells #[.int .i64 (kk:Nat)] 3 (0,0)):=by rw[<-sW];exact heap_alloc_new wa _
 have Gw:wb.heap.size=wa.heap.size+1:=by rw[<-sW];simp
 have Gd:=(ad rJ).size;clear sW t3;have kw:Below w.heap.size w wb:=(ad cg).trans (u4.mono (ad cg).size);have HO:=hide (order_any wb kb tb n ps S K ((ad HM).block (kw.block kb ed)) ((ad HT).block (kw.block tb gq)) (by omega) (λ p hp=>th_len (ad HK p hp)) (λ p hp=>⟨by have:=(ad HK p hp).w.pd.le;omega,by rw[(ad HK p hp).num];rfl⟩) (ad jw));have lC:=hide u4;have Ij:=hide x9;have oi:=hide (And.intro Gw Gd);clear u4 x9 Gw Gd kw;go_upto_region 3 with (go_at_call 67;refine (ad HO).mono ?_;rintro en wc ⟨O,ao,co,rfl,dA,mR,aF,Aj⟩;have lE:=hide dA;have KD:=hide mR;have lF:=hide aF;have AP:=hide Aj;clear dA mR aF Aj);have xN:O.length<=50:=by rw[(ad lE).length_eq,List.length_map];exact hl
 generalize hwd:World.alloc wc _=wd;have kd:Below wb.heap.size wb wd:=by rw[<-hwd];exact (ad AP).alloc (ad AP).size _
 have DO:wd.heap[wc.heap.size]?=some (.cells #[.slice ao O.length co] 141 (0,0)):=by rw[<-hwd];exact heap_alloc_new wc _
 have ro:wd.ownsRow wb.heap.size 148 7 (.slice ao O.length co) O.length (O.flatMap bM):=by rw[<-hwd];exact (ad lF).alloc _
 have sd:wd.heap.size=wc.heap.size+1:=by rw[<-hwd];simp
 have Ge:=(ad AP).size;have xy:=(block_cells DO 0).1;simp only[List.getElem?_toArray,List.getElem?_cons_zero] at xy;have A5:=hide kd;have xq:=hide DO;have iV:=hide ro;have Bo:=hide (And.intro sd Ge);have uE:=make_nodes O.length (by omega);have CY:=make_row O.length (by omega);clear hwd kd DO ro sd Ge;go_upto_region 4 with fail;have BF:((wd.alloc (.cells (madeCells #[.int .i64 0,.slice none 0 0] (O.length*2)) 150)).alloc (.cells #[.slice (some ⟨wd.heap.size,0,none⟩) O.length O.length] 91)).cell? ⟨wc.heap.size,0,none⟩=some (.slice ao O.length co):=by
  have:=ad Bo;rw[World.cell?_of_block (w:=wd) (by rw[Below.heap_alloc _ _ wc.heap.size (by simp only[World.size_alloc];omega),Below.heap_alloc _ _ wc.heap.size (by omega)])];exact xy
 clear xy;go_upto_region 5 with fail;generalize hwe:World.alloc (World.alloc (World.alloc (World.alloc wd _) _) _) _=we;have ke:Below wd.heap.size wd we:=by
  rw[<-hwe];exact ((((Below.refl wd.heap.size wd).alloc L9 _).alloc (by simp) _).alloc (by simp only[World.size_alloc];omega) _).alloc (by simp only[World.size_alloc];omega) _
 have f1:bU we wd.heap.size 150 (O.length*2) (λ c=>if c%2=0 then .int .i64 0 else .slice none 0 0):=by
  show _=_
  rw[<-hwe,Below.heap_alloc _ _ _ (by simp only[World.size_alloc];omega),Below.heap_alloc _ _ _ (by simp only[World.size_alloc];omega),Below.heap_alloc _ _ _ (by simp),<-fCells_made2];exact heap_alloc_new wd _
 have f2:we.heap[wd.heap.size+1]?=some (.cells #[.slice (some ⟨wd.heap.size,0,none⟩) O.length O.length] 91 (0,0)):=by
  rw[<-hwe,Below.heap_alloc _ _ _ (by simp only[World.size_alloc];omega),Below.heap_alloc _ _ _ (by simp)];have:=heap_alloc_new (wd.alloc (.cells (madeCells #[.int .i64 0,.slice none 0 0] (O.length*2)) 150)) (.cells #[.slice (some ⟨wd.heap.size,0,none⟩) O.length O.length] 91);simpa only[World.size_alloc] using this
 have f3:bU we (wd.heap.size+1+1) 4 O.length (λ _=>.bool false):=by
  show _=_
  rw[<-hwe,Below.heap_alloc _ _ _ (by simp),<-fCells_made];have:=heap_alloc_new ((wd.alloc (.cells (madeCells #[.int .i64 0,.slice none 0 0] (O.length*2)) 150)).alloc (.cells #[.slice (some ⟨wd.heap.size,0,none⟩) O.length O.length] 91)) (.cells (madeCells #[.bool false] O.length) 4);simpa only[World.size_alloc] using this
 have f4:we.heap[wd.heap.size+1+1+1]?=some (.cells #[.slice (some ⟨wd.heap.size+1+1,0,none⟩) O.length O.length] 143 (0,0)):=by
  rw[<-hwe];have:=heap_alloc_new (((wd.alloc (.cells (madeCells #[.int .i64 0,.slice none 0 0] (O.length*2)) 150)).alloc (.cells #[.slice (some ⟨wd.heap.size,0,none⟩) O.length O.length] 91)).alloc (.cells (madeCells #[.bool false] O.length) 4)) (.cells #[.slice (some ⟨wd.heap.size+1+1,0,none⟩) O.length O.length] 143);simpa only[World.size_alloc] using this
 have se:we.heap.size=wd.heap.size+1+1+1+1:=by rw[<-hwe];simp
 clear hwe BF uE CY;have B7:=ad Bo;have xz:=(block_cells ((ke.block _ (by omega)).trans (ad xq)) 0).1;simp only[List.getElem?_toArray,List.getElem?_cons_zero] at xz;have HF:=hide (And.intro f1 (And.intro f2 (And.intro f3 (And.intro f4 se))));have D5:=hide ke;clear f1 f2 f3 f4 se ke B7;have mW:=hide (back_any we ao O.length co);go_wp2_with (go_at_call 68;refine (ad mW).mono ?_;rintro en wf ⟨rfl,J3⟩);subst J3;generalize br:World.alloc we _=w1;have hF:=ad HF;have B7:=ad Bo;have IL:=ad oi;have jK:=ad fS;have k1:Below we.heap.size we w1:=by rw[<-br];exact (Below.refl we.heap.size we).alloc L9 _
 have s1:w1.heap.size=wd.heap.size+1+1+1+1+1:=by rw[<-br,World.size_alloc,hF.2.2.2.2]
 have Gz:w1.heap[we.heap.size]?=some (.cells #[.slice ao O.length co] 141 (0,0)):=by rw[<-br];exact heap_alloc_new we _
 have AF:Below wd.heap.size wd w1:=(ad D5).trans (k1.mono (ad D5).size);have u4:Below wb.heap.size wb w1:=(ad A5).trans (AF.mono (ad A5).size);have zv:Below w0.heap.size w0 w1:=(ad lC).trans (u4.mono (ad lC).size);have mP:w1.ownsRow wb.heap.size 148 7 (.slice ao O.length co) O.length (O.flatMap bM):=own_below (ad iV) AF (λ g e=>((ad iV).lt g e).2);have DA:=(ad A5).size;have Dz:=(ad lC).size;have dc:kL w ar cr rs asked kk ao co wb.heap.size wa.heap.size wc.heap.size wd.heap.size O w1:=
  ⟨(zv.block _ (by omega)).trans (ad Ie),(zv.block _ (by omega)).trans (ad Ih),(zv.block _ (by omega)).trans (ad Ii),(u4.block _ (by omega)).trans (ad Ij),(AF.block _ (by omega)).trans (ad xq),(k1.block _ (by omega)).trans hF.2.1,(k1.block _ (by omega)).trans hF.2.2.2.1,mP,(ad cg).trans (zv.mono (ad cg).size),by omega,by omega,by omega,λ g e=>((ad iV).lt g e).2,by omega⟩
 have FO:bC w ar cr rs asked kk ao co wb.heap.size wa.heap.size wc.heap.size wd.heap.size O (rea O) w1 (needs O kk asked (rea O) []) (doneB O kk asked (rea O) []) w1:=
  ⟨dc,aU.refl _ _,(hF.2.2.1).block (k1.block _ (by omega)),⟨λ _=>.slice none 0 0,(hF.1.block (k1.block _ (by omega))).eq (λ i hi=>by simp[rcell,doneB]),λ i h=>by cases h⟩,by omega⟩
 have cK:=λ n=>back_stops (ONo wd.heap.size) n w1 we.heap.size wb.heap.size ao co O Gz mP (by unfold ONo;omega) (λ g e=>by have:=((ad iV).lt g e).2;unfold ONo;omega) (by omega)
 have zR:=hide FO;have nj:=hide s1;clear br hF B7 IL jK k1 Gz AF u4 zv mP DA Dz dc xz FO;refine (wpIn_wide (n:=5)).1 ?_;refine wpIn_rangeFunc_ownH (α:=Fin O.length) rfl (by omega) (gf:=107) (lb:=#[.pointer (some ⟨we.heap.size,0,none⟩)]) rfl trivial (enters_of Tryz.func107 (by kernel_rfl) rfl)
  (cK _) (λ h1 h2=>aU.trans h1 h2) (λ W l o o' _ hl hc hwk=>keep_putObj W l o o' hl hc hwk) B9 (λ _=>rfl)
  (λ (pre:List (Fin O.length)) (W:W8)=>bC w ar cr rs asked kk ao co wb.heap.size wa.heap.size wc.heap.size wd.heap.size O (rea O) w1 (needs O kk asked (rea O) pre) (doneB O kk asked (rea O) pre) W)
  (λ (_:Code) (_:List (Fin O.length)) (_:W8)=>False)
  (λ pre A B row hs hg hr=>hs.grown hg (λ i e=>hr i e))
  (λ c pre A B row hs hg hr=>hs)
  (ad zR)
  (λ (x:Fin O.length) (a':Act) (W:W8)=>∃ Bx,w1.heap.size<=Bx/\PV W Bx O[x]/\a'={ tmps:=List.toArray ((Value.slice ar rs.length cr)::(Value.map (some tb))::(Value.map (some kb))::(Value.agg ct)::(Value.pointer (some ⟨w.heap.size,0,none⟩))::undef::undef::(Value.pointer (some ⟨w.heap.size+1,0,none⟩))::(Value.pointer (some ⟨w.heap.size+1+1,0,none⟩))::(Value.pointer (some ⟨wa.heap.size,0,none⟩))::(Value.pointer (some ⟨wc.heap.size,0,none⟩))::(Value.pointer (some ⟨wd.heap.size+1,0,none⟩))::(Value.pointer (some ⟨wd.heap.size+1+1+1,0,none⟩))::(Value.int .i64 (x.1:Nat))::(Value.pointer (some ⟨Bx,0,none⟩))::undef::undef::(Value.map (some tb))::(Value.map (some kb))::(thV asked)::(Value.int .i64 (kk:Nat))::(Value.map (some kb))::(Value.map (some tb))::(Value.slice ao O.length co)::(Value.slice ao O.length co)::(Value.int .i64 (O.length:Nat))::(Value.slice (some ⟨wd.heap.size,0,none⟩) O.length O.length)::(Value.slice ao O.length co)::(Value.int .i64 (O.length:Nat))::(Value.slice (some ⟨wd.heap.size+1+1,0,none⟩) O.length O.length)::(Value.slice ao O.length co)::(Value.func (.func 107) #[] #[.pointer (some ⟨we.heap.size,0,none⟩)])::(Value.int .i64 (x.1:Nat))::(Value.agg #[.string O[x].t.p,.string (nth4 O[x].t.ts 0),.string (nth4 O[x].t.ts 1),.string (nth4 O[x].t.ts 2),.string (nth4 O[x].t.ts 3),.int .i64 O[x].s,.int .i64 O[x].h])::List.replicate 44 undef),defers:=[] })
  (λ x a' _ A B row hs hg hr=>let ⟨Bx,h1,h2,h3⟩:=hs;⟨Bx,h1,h2.grown hg (λ i e=>(hr i e).2),h3⟩)
  ?assign ?body ?done (λ D c pre W _ _ h=>h.elim)
 case assign=>
  intro l pre x W K2 hI jJ;have kI:=hide jJ;have HI:=hide hI;have hz:w1.heap.size<=W.heap.size:=hI.kp.size;clear jJ hI zR cK;unfold plV bM
  gi_wp2
  exact ad kI _ _ ((KeepsOthers.alloc _ _).from _) ((aU.refl _ _).alloc _) ((ad HI).grown (World.grownBy_alloc W _ none) (λ _ e=>by cases e)) ⟨W.heap.size,hz,heap_alloc_new W _,rfl⟩
 case body=>
  rintro l pre x a' W CI-hI ⟨Bx,BR,Au,rfl⟩ -;clear cK zR;have hx:=x.2;have J7:(x.1:Int)<O.length:=by omega
  have F8:O[x.1]?=some O[x]:=List.getElem?_eq_getElem hx;have nP:eX ps O[x].t:=by
   obtain⟨q,hq,e⟩:=List.mem_map.1 ((ad lE).mem_iff.1 (List.getElem_mem hx))
   show eX ps O[x.1].t
   rw[<-e];exact ad HK q hq
  have j8:=(((ad qt) O (ad lE) (ad KD)).least x.1 hx);have j8:gD (numU O[x] O 0) rs O[x].t (rea O x.1).1 (rea O x.1).2:=j8;generalize O[x]=p at *;have c9:=(block_cells hI.box.y9 0).1;have nu:=(block_cells hI.box.vb 0).1;simp only[List.getElem?_toArray,List.getElem?_cons_zero] at c9 nu;have t7:(tLoad (.pointer (some ⟨w.heap.size+1,0,none⟩))).run Tryz.prog W=.ok (.agg #[.string asked.p,.string (nth4 asked.ts 0),.string (nth4 asked.ts 1),.string (nth4 asked.ts 2),.string (nth4 asked.ts 3)]) W:=hI.box.y7.load;have Kv:=Au.loadT;have p5:=(block_cells Au 5).1;simp only[bM,List.getElem?_toArray,List.getElem?_cons_zero,List.getElem?_cons_succ] at p5;have nc:=hI.jF.cell hx;have nf:=hI.jF.fz x.1;obtain⟨be,iN⟩:∃ be,be=decide (p.t=asked):=⟨_,rfl⟩;have hs:∀ u:W8,(Op.equalIn 10000 88 (.agg #[.string p.t.p,.string (nth4 p.t.ts 0),.string (nth4 p.t.ts 1),.string (nth4 p.t.ts 2),.string (nth4 p.t.ts 3)]) (.agg #[.string asked.p,.string (nth4 asked.ts 0),.string (nth4 asked.ts 1),.string (nth4 asked.ts 2),.string (nth4 asked.ts 3)])).run Tryz.prog u=.ok be u:=λ u=>by
   rw[iN,<-eqTh nP.ok bZ];exact eqTh0 u p.t.p (nth4 p.t.ts 0) (nth4 p.t.ts 1) (nth4 p.t.ts 2) (nth4 p.t.ts 3) asked.p (nth4 asked.ts 0) (nth4 asked.ts 1) (nth4 asked.ts 2) (nth4 asked.ts 3)
  have Ct:∀ (u:W8) (xs ys:Array Value),(eqGuard .eql 88 (.tmp 40) (.tmp 41) (.agg xs) (.agg ys)).run Tryz.prog u=.ok () u:=λ u xs ys=>run_eqGuard_agg u _ _ _ _ _ _ (by kernel_rfl)
  have vf:=hide iN;clear iN;have HI:=hide hI;have zQ:=hide Au;have xe:=hide nP;have A8:=hide j8;have Ik:=hide F8;clear hI Au nP j8 F8
  have qz:=hide (show ∀ b:Bool,b=(decide (p.s<kk)||decide (p.t=asked))->need1 O kk asked (needs O kk asked (rea O) pre) x.1=if b then setB (needs O kk asked (rea O) pre) x.1 true else needs O kk asked (rea O) pre from by
   intro b hb;unfold need1 ownB;rw[ad Ik,hb]
   rfl)
  have yg:p.s<kk\/(¬ p.s<kk/\be=true)\/(¬ p.s<kk/\be=false):=by
   cases be <;> by_cases h:p.s<kk <;> simp[h]
  rcases yg with h1 | ⟨h1,h2⟩ | ⟨h1,h2⟩
  all_goals gi_upto_region 10 with fail
  have lM:=ad qz true (by simp[h1]);have ee:=(ad HI).own x.1;rw[if_pos rfl] at lM;rw[<-lM] at ee;have j7:=(dS.refl wd.heap.size W).set (j:=x.1) (.inr rfl) (.bool true);have ll:PV (W.setCell ⟨wd.heap.size+1+1,x.1,none⟩ (.bool true)) Bx p:=(Below.heap_setCell _ _ _ _ (by simp;omega)).trans (ad zQ);generalize W.setCell ⟨wd.heap.size+1+1,x.1,none⟩ (.bool true)=W2 at *
  rotate_left
  have lM:=ad qz true (by rw[<-ad vf,h2];simp);have ee:=(ad HI).own x.1;rw[if_pos rfl] at lM;rw[<-lM] at ee;have j7:=(dS.refl wd.heap.size W).set (j:=x.1) (.inr rfl) (.bool true);have ll:PV (W.setCell ⟨wd.heap.size+1+1,x.1,none⟩ (.bool true)) Bx p:=(Below.heap_setCell _ _ _ _ (by simp;omega)).trans (ad zQ);generalize W.setCell ⟨wd.heap.size+1+1,x.1,none⟩ (.bool true)=W2 at *
  rotate_left
  have lM:=ad qz false (by rw[<-ad vf,h2];simp[h1]);have ee:=ad HI;rw[if_neg (by simp)] at lM;rw[<-lM] at ee;have ll:=ad zQ;obtain⟨W2,Cc⟩:∃ W2,W2=W:=⟨_,rfl⟩;have j7:dS wd.heap.size W W2:=by rw[Cc];exact dS.refl _ _
  rw[<-Cc] at ee ll ⊢;clear Cc
  rotate_left
  all_goals
   clear c9 nu t7 Kv p5 nc nf hs Ct lM h1 qz vf;have pg:=needs_snoc O kk asked (rea O) pre x;have Fc:=done_snoc O kk asked (rea O) pre x;rw[needStep_eq] at pg;generalize need1 O kk asked (needs O kk asked (rea O) pre) x.1=B1 at *;have wz:=hide pg;have qv:=hide Fc;clear pg Fc;have nu:=(block_cells ee.box.vb 0).1;simp only[List.getElem?_toArray,List.getElem?_cons_zero] at nu;have nc:=ee.jF.cell hx;have ng:=hide ee;have tH:=hide ll;have tA:=hide j7;clear ee ll j7
   cases aX:B1 x.1 with
   | false=>
    rw[aX] at nc;have cR:=hide aX;clear aX
    gi_wp2
    have yr:=bC.ends (ad HI) (ad ng) (ad tA);refine⟨yr.1,yr.2,?_⟩
    show bC w ar cr rs asked kk ao co wb.heap.size wa.heap.size wc.heap.size wd.heap.size O (rea O) w1 (needs O kk asked (rea O) (pre++[x])) (doneB O kk asked (rea O) (pre++[x])) W2
    rw[ad wz,ad qv,ad cR,if_neg (by simp),if_neg (by simp)];exact ad ng
   | true=>
    rw[aX] at nc;have cR:=hide aX;clear aX
    gi_upto_region 11 with fail
    obtain⟨S',j6⟩:∃ S':W8->Prop,S'=λ V=>∀ i,i<W2.heap.size->i≠wd.heap.size->V.heap[i]?=W2.heap[i]?:=⟨_,rfl⟩
    have ee:=ad ng;have uz:=(Array.getElem?_eq_some_iff.1 ee.box.vb).1;have Ci:=ee.box.l9;have xY:=ee.box.pZ;have Cj:=ee.box.lD
    have dv:=hide (λ (V:W8) (hV:S' V)=>(show V.cell? ⟨wd.heap.size+1,0,none⟩=some (.slice (some ⟨wd.heap.size,0,none⟩) O.length O.length)/\V.cell? ⟨w.heap.size,0,none⟩=some (.slice ar rs.length cr)/\V.cell? ⟨wc.heap.size,0,none⟩=some (.slice ao O.length co)/\PV V Bx p from by
     rw[j6] at hV;have ll:=ad tH
     exact⟨(block_cells ((hV _ (by omega) (by omega)).trans ee.box.AJ) 0).1,(block_cells ((hV _ (by omega) (by omega)).trans ee.box.y4) 0).1,(block_cells ((hV _ (by omega) (by omega)).trans ee.box.GB) 0).1,(hV _ ll.lt (by omega)).trans ll⟩))
    have tL:=hide (λ (V:W8) (hV:Below W2.heap.size W2 V)=>(show S' V from by rw[j6];exact λ i hi _=>hV.block i hi));have tM:=hide (λ (V:W8) (hV:S' V) (j:Nat) (v:Value)=>(show S' (V.setCell ⟨wd.heap.size,j,none⟩ v) from by rw[j6] at hV ⊢;exact λ i hi hn=>(Below.heap_setCell _ _ _ _ (by simpa using hn)).trans (hV i hi hn)))
    have Ej:=hide (λ (V:W8) (hV:Below W2.heap.size W2 V)=>reason_any ps V base wb.heap.size ar ao cr co rs O p ((ad HR).below (ee.box.k.trans (hV.mono ee.box.k.size))) (own_below ee.box.ro hV (λ g e=>(ee.box.ro.lt g e).2)) (ad HG) (λ q hq=>by
     obtain⟨y,hy,e⟩:=List.mem_map.1 ((ad lE).mem_iff.1 hq);rw[<-e]
     exact ad HK y hy) (ad xe) (by
     have h3:(O.map (·.t)).Perm ((K.map (plOf S)).map (·.t)):=(ad lE).map _;refine h3.symm.nodup ?_;rw[List.map_map]
     exact nodup_of_map thText (by rw[List.map_map];exact ad jw)) (by omega))
    have jK:=ad tL W2.drew B9.drew;clear j6 ee uz Ci xY Cj nu nc;refine region_round S' (by kernel_rfl) (by kernel_rfl) (λ ⟨_,_,h⟩=>h) ?_;refine K9 0 (.slice (some ⟨wd.heap.size,0,none⟩) O.length O.length) rfl (Or.inl ⟨by rfl,λ V hV=>by obtain⟨m0,m1,m2,m3⟩:=ad dv V hV;go_simp⟩) jK ?_;refine K9 1 (.int .i64 (x.1:Nat)) rfl (Or.inl ⟨by rfl,λ V _=>by go_simp⟩) jK ?_;refine K9 2 (.slice ar rs.length cr) rfl (Or.inl ⟨by rfl,λ V hV=>by obtain⟨m0,m1,m2,m3⟩:=ad dv V hV;go_simp⟩) jK ?_;refine K9 3 (.slice ao O.length co) rfl (Or.inl ⟨by rfl,λ V hV=>by obtain⟨m0,m1,m2,m3⟩:=ad dv V hV;go_simp⟩) jK ?_;refine K9 4 (.agg #[.string p.t.p,.string (nth4 p.t.ts 0),.string (nth4 p.t.ts 1),.string (nth4 p.t.ts 2),.string (nth4 p.t.ts 3),.int .i64 p.s,.int .i64 p.h]) rfl (Or.inl ⟨by rfl,λ V hV=>by obtain⟨m0,m1,m2,m3⟩:=ad dv V hV;have n0:=(block_cells m3 0).1;have n1:=(block_cells m3 1).1;have n2:=(block_cells m3 2).1;have n3:=(block_cells m3 3).1;have n4:=(block_cells m3 4).1;have n5:=(block_cells m3 5).1;have n6:=(block_cells m3 6).1;simp only[bM,List.getElem?_toArray,List.getElem?_cons_zero,List.getElem?_cons_succ] at n0 n1 n2 n3 n4 n5 n6;go_simp⟩) jK ?_;refine wpAnyH_ready (rs:=[5]) (by kernel_rfl) (by simp) ?_;refine AllReadyH.cons rfl (λ K hK=>?_) AllReadyH.nil
    go_simp
    refine (ad Ej _ B9.drew).mono ?_;rintro en w4 ⟨bP,i4,DI,a4,c4,rfl,mM,yF⟩;have hle:=ad A8;have Jh:i4=(rea O x.1).1/\DI=(rea O x.1).2:=by
     rcases yF with h | h
     ·exact h.uniq hle
     ·have:=hle.mem;rw[h _ (List.getElem_mem hle.lt)] at this
      cases this
    obtain⟨rfl,rfl⟩:=Jh;have bY:=below_of_drew bP;have ja:=ad tL w4 bY;have fg:=(ad ng).below bY;have mM:=ax (base':=w1.heap.size) mM (Nat.le_trans (ad HI).kp.size (ad tA).size);obtain⟨V4,f4,-⟩:=fg.nV;have Gt:=f4.cell (i:=x.1*2) (by omega);have Kt:=f4.cell (i:=x.1*2+1) (by omega);have Gu:=f4.fz (x.1*2);have Ku:=f4.fz (x.1*2+1);have oH:=hide ((ad tA).below bY);have oe:=hide fg;have Ee:=hide mM;refine hK.out _ _ ja (λ _=>?_);clear hK K bP yF hle fg mM f4;refine K9 6 (.pointer (some ⟨wd.heap.size,x.1*2,none⟩)) rfl (Or.inl ⟨by rfl,λ V _=>by go_simp⟩) ja ?_;refine wpAnyH_ready (rs:=[7]) (by kernel_rfl) (by simp) ?_;refine AllReadyH.cons rfl (λ K hK=>?_) AllReadyH.nil
    go_simp
    refine hK.out _ _ (ad tM _ (ad tM _ ja _ _) _ _) (λ _=>?_);clear hK K;refine wpAnyH_done (by kernel_rfl) ?_ _;have gl:=(ad oe).put x.1 hx (ad Ee);have jt:=((ad oH).set (b:=wd.heap.size) (j:=x.1*2) (.inl rfl) (.int .i64 ((rea O x.1).1:Nat))).set (b:=wd.heap.size) (j:=x.1*2+1) (.inl rfl) (.slice a4 (rea O x.1).2.length c4);have Fx:=((ad qt) O (ad lE) (ad KD)).len x.1 hx;have sE:=((ad qt) O (ad lE) (ad KD)).low x.1 hx;clear Gt Kt Gu Ku oe Ee oH bY ja jK dv tL tM Ej;generalize (w4.setCell ⟨wd.heap.size,x.1*2,none⟩ (.int .i64 ((rea O x.1).1:Nat))).setCell ⟨wd.heap.size,x.1*2+1,none⟩ (.slice a4 (rea O x.1).2.length c4)=w5 at gl jt ⊢;obtain⟨rr,FE,Cl⟩:=gl;have EA:=(block_cells rr.box.AJ 0).1;simp only[List.getElem?_toArray,List.getElem?_cons_zero] at EA;generalize aF:(rea O x.1).2=row at *;have H0:=hide (show bC w ar cr rs asked kk ao co wb.heap.size wa.heap.size wc.heap.size wd.heap.size O (rea O) w1 (markFrom B1 (row.take 0)) (setB (doneB O kk asked (rea O) pre) x.1 true) w5/\w5.ownsRow w1.heap.size 3 1 (.slice a4 row.length c4) row.length (cO row)/\dS wd.heap.size W w5 from ⟨rr,FE,jt⟩);have G9:=hide sE;clear rr FE jt sE
    gi_upto_region 13 with fail
    gi_loopg [65] row.length (λ gg i wr=>∃ k:Nat,k<=row.length/\gg=row.length-k/\i=.int .i64 k/\(bC w ar cr rs asked kk ao co wb.heap.size wa.heap.size wc.heap.size wd.heap.size O (rea O) w1 (markFrom B1 (row.take k)) (setB (doneB O kk asked (rea O) pre) x.1 true) wr/\wr.ownsRow w1.heap.size 3 1 (.slice a4 row.length c4) row.length (cO row)/\dS wd.heap.size W wr))
    exact⟨0,Nat.zero_le _,rfl,rfl,ad H0⟩
    case round=>
     clear H0 EA Cl;obtain⟨k,hk,fK,rfl,ak,tZ,kq⟩:=hrel
     by_cases aR:k<row.length
     ·obtain⟨g,rfl,dn,hcg⟩:=numAt tZ k aR;have nu:=(block_cells ak.box.vb 0).1;simp only[List.getElem?_toArray,List.getElem?_cons_zero] at nu;have hy:=ad G9 row[k] (List.getElem_mem aR);have Kd:((row[k]:Nat):Int)<O.length:=(by omega);have nc:=ak.jF.cell (i:=row[k]) (by omega);have nf:=ak.jF.fz row[k];have gM:(k:Int)<row.length:=(by omega);have bp:=hide ak;have zS:=hide tZ;have tz:=hide kq;clear ak tZ kq
      gi_wp2
      gi_roundg (row.length-(k+1))
      case measure=>omega
      case rel=>
       refine⟨k+1,by omega,rfl,by go_num,?_,?_,(ad tz).set (.inr rfl) _⟩
       ·rw[markFrom_take aR];exact (ad bp).own row[k]
       ·exact own_block (ad zS) (λ g e=>by have:=((ad zS).lt g e).1;exact Below.heap_setCell _ _ _ _ (by simp;omega))
     ·have ma:k=row.length:=(by omega);subst ma;have gM:¬ ((row.length:Int)<row.length):=(by omega);have bp:=hide ak;have tz:=hide kq;clear ak tZ kq s1
      gi_wp2
      have yr:=bC.ends (ad HI) (ad bp) (ad tz);refine⟨yr.1,yr.2,?_⟩
      show bC w ar cr rs asked kk ao co wb.heap.size wa.heap.size wc.heap.size wd.heap.size O (rea O) w1 (needs O kk asked (rea O) (pre++[x])) (doneB O kk asked (rea O) (pre++[x])) _
      rw[ad wz,ad qv,ad cR,if_pos rfl,if_pos rfl];have:=ad bp;rw[List.take_length] at this;exact this
 case done=>
  rintro D xs W hD J9 hI eF;subst J9;have pt:O.length<=maxLen:=by unfold maxLen;omega
  have hA:=(ad qt) O (ad lE) (ad KD);obtain⟨aK,lN,rj,vN⟩:=hI.nodes pt;have Fb:=done_backs (k:=kk) (asked:=asked) hA.low O.length 0 (by omega);have yT:aK.map dW=nodesOf O.length (rea O) (needs O kk asked (rea O) (backs O.length 0)):=by
   rw[vN];unfold nodesOf;apply List.map_congr_left;intro i hi;rw[Fb i (List.mem_range.1 hi)];simp
  have sr:∀ y∈aK,y.fr.length<=3/\∀ z∈y.fr,z<aK.length:=by
   intro y hy;have:dW y∈aK.map dW:=List.mem_map_of_mem hy;rw[vN] at this;obtain⟨i,hi,e⟩:=List.mem_map.1 this;have hi:=List.mem_range.1 hi;have e2:y.fr=(if doneB O kk asked (rea O) (backs O.length 0) i=true then rea O i else (0,[])).2:=(by rw[e];rfl);rw[e2]
   split
   ·exact⟨hA.len i hi,λ z hz=>by have:=hA.low i hi z hz;omega⟩
   ·exact⟨by simp,λ z hz=>by cases hz⟩
  have ni:=hide (λ (V:W8) (hV:Below W.heap.size W V)=>renum_any V wd.heap.size (wd.heap.size+1+1) (some ⟨wd.heap.size,0,none⟩) O.length aK (needs O kk asked (rea O) (backs O.length 0)) (by rw[lN];exact rj.below hV) (by rw[lN];exact hI.jF.below hV) (by omega) sr);rw[lN,yT] at ni;have HI:=hide hI;have HD:=hide hD;have lU:=hide eF;have hk:=hI.kp.size;have hl9:=hI.box.l9;have Jq:=hI.box.pZ;have hlD:=hI.box.lD
  have HA:=hide (λ (V:W8) (hV:∀ i,i<W.heap.size->i≠w.heap.size+1+1->V.heap[i]?=W.heap[i]?)=>(show V.cell? ⟨wa.heap.size,0,none⟩=some (.int .i64 (kk:Nat))/\V.cell? ⟨wd.heap.size+1,0,none⟩=some (.slice (some ⟨wd.heap.size,0,none⟩) O.length O.length)/\V.cell? ⟨wd.heap.size+1+1+1,0,none⟩=some (.slice (some ⟨wd.heap.size+1+1,0,none⟩) O.length O.length) from
   ⟨(block_cells ((hV _ (by omega) (by omega)).trans hI.box.y9) 0).1,(block_cells ((hV _ (by omega) (by omega)).trans hI.box.AJ) 0).1,(block_cells ((hV _ (by omega) (by omega)).trans hI.box.vb) 0).1⟩))
  have xE:=ad HA W.drew (λ i _ _=>rfl);have kt:w.heap.size+1+1<W.heap.size:=by omega
  clear hI hD eF rj vN yT sr Fb hA cK zR s1;go_upto_region 17 with fail
  go_region_held3 (λ V=>V.cell? ⟨wa.heap.size,0,none⟩=some (.int .i64 (kk:Nat))/\V.cell? ⟨wd.heap.size+1,0,none⟩=some (.slice (some ⟨wd.heap.size,0,none⟩) O.length O.length)/\V.cell? ⟨wd.heap.size+1+1+1,0,none⟩=some (.slice (some ⟨wd.heap.size+1+1,0,none⟩) O.length O.length)) ((refine ad HA _ ?_;first | exact ja | exact (λ i _ _=>rfl) | exact (λ i hi hn=>by rw[Below.heap_setCell _ _ _ _ (by simpa using hn),Below.heap_setCell _ _ _ _ (by simpa using hn)];exact ja i hi hn))) ((go_at_call 70;refine (ad ni _ (by exact B9.drew)).mono ?_;rintro en w4 ⟨out,a4,c4,rfl,uH,oy,bP⟩;have bY:=below_of_drew bP;have ja:∀ i,i<W.heap.size->i≠w.heap.size+1+1->w4.heap[i]?=W.heap[i]?:=(λ i hi _=>bY.block i hi);obtain⟨r0,f0⟩:=block_cells ((bY.block _ kt).trans (ad HI).box.y8) 0;obtain⟨r1,f1⟩:=block_cells ((bY.block _ kt).trans (ad HI).box.y8) 1;simp only[List.getElem?_toArray,List.getElem?_cons_zero,List.getElem?_cons_succ] at r0 r1;have He:=hide uH;have rS:=hide oy;clear uH oy bP))
  obtain⟨q0,q1⟩:=set2' r0 r1 (.int .i64 (kk:Nat)) (.slice a4 out.length c4);have gx:∀ i,i≠w.heap.size+1+1->((w4.setCell ⟨w.heap.size+1+1,0,none⟩ (.int .i64 (kk:Nat))).setCell ⟨w.heap.size+1+1,1,none⟩ (.slice a4 out.length c4)).heap[i]?=w4.heap[i]?:=λ i hi=>by rw[Below.heap_setCell _ _ _ _ (by simpa using hi),Below.heap_setCell _ _ _ _ (by simpa using hi)]
  go_wp2_with fail;refine leave_marks [D] _ (by simp) (λ E hE=>?_) (λ w' hs=>?_)
  ·rw[List.mem_singleton.1 hE];have h1:=ad lU;have h2:=ad HD;have h3:=ad nj;rw[gx D (by omega),bY.block D (Array.getElem?_eq_some_iff.1 h1).1];exact h1
  ·have h1:=ad lU;have h2:=ad HD;have h3:=ad nj;have hDl:=(Array.getElem?_eq_some_iff.1 h1).1;have hI:=ad HI;have q2:=(World.cell?_of_block (a:=⟨w.heap.size+1+1,0,none⟩) (hs.block (w.heap.size+1+1) (by simp;omega))).trans q0;have q3:=(World.cell?_of_block (a:=⟨w.heap.size+1+1,1,none⟩) (hs.block (w.heap.size+1+1) (by simp;omega))).trans q1;refine⟨.agg #[.int .i64 (kk:Nat),.slice a4 out.length c4],by simp[results,Tryz.results42,go_sem,q2,q3],?_⟩;have br:=hI.box.k.size;have uH:=ad He;have jb:∀ i,W.heap.size<=i->w'.heap[i]?=w4.heap[i]?:=λ i hi=>(hs.block i (by simp;omega)).trans (gx i (by omega))
   rw[ad vq];refine⟨O,ad lE,ad KD,out,a4,c4,rfl,⟨own_block (ax uH.row br) (λ g e=>jb g (uH.row.lt g e).1),λ y hy=>own_block (ax (uH.each y hy) br) (λ g e=>jb g ((uH.each y hy).lt g e).1)⟩,ad rS,?_⟩;exact⟨hs.os.trans (bY.os.trans hI.box.k.os),hs.tape.trans (bY.tape.trans hI.box.k.tape),hs.output.trans (bY.output.trans hI.box.k.output),by rw[hs.size];simpa using Nat.le_trans br bY.size,λ i hi=>(hs.block i (by simp;omega)).trans ((gx i (by omega)).trans ((bY.block i (by omega)).trans (hI.box.k.block i hi)))⟩
end
end Go.Proofs.YtldkpahaocjdpaaGreat
