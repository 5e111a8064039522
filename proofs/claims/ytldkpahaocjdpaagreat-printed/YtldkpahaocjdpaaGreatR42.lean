/-
  witness.Of: the witness that shows whether a thing follows.
-/
import Derived.Test.YtldkpahaocjdpaaGreatR41
set_option maxHeartbeats 16000000
set_option maxRecDepth 1000000
namespace Go.Proofs.YtldkpahaocjdpaaGreat
section
open Go.RowKit Go.Maps
attribute [local go_sem ↓] to_tLoad to_tStore to_tAlloc thV_cells
attribute [local go_sem] Oper.semAt_some
attribute [local go_sem] tStore_new run_tAlloc
structure OfArg (ps:P9)(S:B8->Nat)(rs:List PR)(K:List (Th × Nat))(O:List Pl)(rea:Nat->Nat × List Nat):Prop where
 perm:O.Perm (K.map (plOf S))
 least:∀ (i:Nat) (h:i<O.length),gx (numU O[i] O 0) rs O[i].t (rea i).1 (rea i).2
 len:∀ (i:Nat),i<O.length->(rea i).2.length<=3
 low:∀ (i:Nat),i<O.length->∀ x∈(rea i).2,x<i
def OfPost2 (w:W8)(k:Nat)(ns:List (Nat × List Nat))(e:Ending)(w':W8):Prop:=
 ∃ (out:List ND) (a:O8) (c:Nat),e=.returned (.agg #[.int .i64 (k:Nat),.slice a out.length c])/\bN w' w.heap.size (.slice a out.length c) out/\out.map dX=ns/\Below w.heap.size w w'
theorem wof_any (ps:P9)(w:W8)(base tb n kb:Nat)(ar:O8)(cr:Nat)(rs:List PR)(S:B8->Nat)(K:List (Th × Nat))(asked:Th)(rea:List Pl->Nat->Nat × List Nat)(hr:bR w base (.slice ar rs.length cr) rs)(ht:SMap Tryz.prog 9 w tb n (stV ps S))(hm:aM w kb K)(hg:∀ r∈rs,bF ps r)(hK:∀ p∈K,eE ps p.1)(hl:K.length<=50)(hS:∀ p:B8,(numOf ps p).isSome=true->S p<=1000000)(bX:ThOk asked)(I2:S asked.1<=1000000)(dB:(K.map λ p=>thText p.1).Nodup)(yc:∀ O:List Pl,O.Perm (K.map (plOf S))->(O.Pairwise λ p q=>lessPl p q=true)->OfArg ps S rs K O (rea O)):
  Calls Tryz.prog 42 #[.slice ar rs.length cr,.map (some tb),.map (some kb),thV asked] w λ e w'=>∃ O:List Pl,O.Perm (K.map (plOf S))/\(O.Pairwise λ p q=>lessPl p q=true)/\OfPost2 w (a8 ps S K asked) (renum (needs O (a8 ps S K asked) asked (rea O) (backs O.length 0)) (nodesOf O.length (rea O) (needs O (a8 ps S K asked) asked (rea O) (backs O.length 0))) 0 (λ _=>0) []) e w':=by
 have fZ:=ht.lt;have ed:=hm.lt;have HR:=hide hr;have HT:=hide ht;have HM:=hide hm;have HG:=hide hg;have HK:=hide hK;have vx:=hide hS;have ju:=hide dB;have qt:=hide yc;have Ay:=own_max hr.row;unfold maxLen at Ay;obtain⟨ct,eM⟩:∃ ct,ct=(aq asked).toArray:=⟨_,rfl⟩;have fw:=hide eM;unfold thV;rw[<-eM];clear hr ht hm hg hK hS dB yc eM;refine callsIn_wide.1 (callsIn_of_wp_marks (F:=Fence.wide) (n:=5) Tryz.func42 rfl trivial (wpIn_wide.2 ?_) rfl);simp only[Tryz.ntmps42,List.size_toArray,List.length_cons,List.length_nil,Nat.reduceAdd,Nat.reduceSub,Array.replicate_succ,Array.replicate_zero,List.push_toArray,List.append_toArray,List.nil_append,List.cons_append];go_upto_region 1 with fail;generalize hw0:World.alloc (World.alloc (World.alloc w _) _) _=w0;have k0:Below w.heap.size w w0:=by
  rw[<-hw0];exact (((Below.refl w.heap.size w).alloc L9 _).alloc (by simp) _).alloc (by simp only[World.size_alloc];omega) _
 have x4:w0.heap[w.heap.size]?=some (.cells #[.slice ar rs.length cr] 75 (0,0)):=by
  rw[<-hw0,Below.heap_alloc _ _ _ (by simp only[World.size_alloc];omega),Below.heap_alloc _ _ _ (by simp)];exact heap_alloc_new w _
 have x7:TV w0 (w.heap.size+1) asked:=by
  rw[<-hw0,ad fw]
  show _=_
  rw[Below.heap_alloc _ _ _ (by simp)];have:=heap_alloc_new (w.alloc (.cells #[.slice ar rs.length cr] 75)) (.cells (aq asked).toArray 88);rw[World.size_alloc] at this;exact this
 have x8:w0.heap[w.heap.size+1+1]?=some (.cells #[.int .i64 0,.slice none 0 0] 93 (0,0)):=by
  rw[<-hw0];have:=heap_alloc_new ((w.alloc (.cells #[.slice ar rs.length cr] 75)).alloc (.cells ct 88)) (.cells #[.int .i64 0,.slice none 0 0] 93);rw[World.size_alloc,World.size_alloc] at this;exact this
 have s0:w0.heap.size=w.heap.size+1+1+1:=by rw[<-hw0];simp
 clear hw0;have t3:=x7.load;have HW:=hide (whole_any w0 tb n kb ps S K asked ((ad HT).block (k0.block tb fZ)) ((ad HM).block (k0.block kb ed)) bX I2);generalize hkk0:a8 ps S K asked=kk at *;have vs:=hide hkk0;clear hkk0;have cq:=hide k0;have Iu:=hide x4;have Iv:=hide x7;have Iw:=hide x8;have fH:=hide s0;clear k0 x4 x7 x8 s0;go_upto_region 2 with (go_at_call 66;refine (ad HW).mono ?_;rintro en wa ⟨rfl,uf⟩;have rF:=hide uf;clear uf);generalize sT:World.alloc wa _=wb;have u7:Below w0.heap.size w0 wb:=by rw[<-sT];exact (ad rF).alloc (ad rF).size _
 have x9:wb.heap[wa.heap.size]?=some (.cells #[.int .i64 (kk:Nat)] 3 (0,0)):=by rw[<-sT];exact heap_alloc_new wa _
 have GK:wb.heap.size=wa.heap.size+1:=by rw[<-sT];simp
 have Gr:=(ad rF).size;clear sT t3;have kw:Below w.heap.size w wb:=(ad cq).trans (u7.mono (ad cq).size);have HO:=hide (order_any wb kb tb n ps S K ((ad HM).block (kw.block kb ed)) ((ad HT).block (kw.block tb fZ)) (by omega) (λ p hp=>th_len (ad HK p hp)) (λ p hp=>⟨by have:=(ad HK p hp).w.pd.le;omega,by rw[(ad HK p hp).num];rfl⟩) (ad ju));have lu:=hide u7;have Ix:=hide x9;have n9:=hide (And.intro GK Gr);clear u7 x9 GK Gr kw;go_upto_region 3 with (go_at_call 67;refine (ad HO).mono ?_;rintro en wc ⟨O,ao,co,rfl,dC,mO,aE,Fm⟩;have lx:=hide dC;have xh:=hide mO;have ly:=hide aE;have AX:=hide Fm;clear dC mO aE Fm);have xR:O.length<=50:=by rw[(ad lx).length_eq,List.length_map];exact hl
 generalize hwd:World.alloc wc _=wd;have kd:Below wb.heap.size wb wd:=by rw[<-hwd];exact (ad AX).alloc (ad AX).size _
 have DS:wd.heap[wc.heap.size]?=some (.cells #[.slice ao O.length co] 141 (0,0)):=by rw[<-hwd];exact heap_alloc_new wc _
 have ro:wd.ownsRow wb.heap.size 148 7 (.slice ao O.length co) O.length (O.flatMap bM):=by rw[<-hwd];exact (ad ly).alloc _
 have sd:wd.heap.size=wc.heap.size+1:=by rw[<-hwd];simp
 have Gs:=(ad AX).size;have xC:=(block_cells DS 0).1;simp only[List.getElem?_toArray,List.getElem?_cons_zero] at xC;have Bc:=hide kd;have xu:=hide DS;have iV:=hide ro;have By:=hide (And.intro sd Gs);have uG:=make_nodes O.length (by omega);have C2:=make_row O.length (by omega);clear hwd kd DS ro sd Gs;go_upto_region 4 with fail;have BQ:((wd.alloc (.cells (madeCells #[.int .i64 0,.slice none 0 0] (O.length*2)) 150)).alloc (.cells #[.slice (some ⟨wd.heap.size,0,none⟩) O.length O.length] 91)).cell? ⟨wc.heap.size,0,none⟩=some (.slice ao O.length co):=by
  have:=ad By;rw[World.cell?_of_block (w:=wd) (by rw[Below.heap_alloc _ _ wc.heap.size (by simp only[World.size_alloc];omega),Below.heap_alloc _ _ wc.heap.size (by omega)])];exact xC
 clear xC;go_upto_region 5 with fail;generalize hwe:World.alloc (World.alloc (World.alloc (World.alloc wd _) _) _) _=we;have ke:Below wd.heap.size wd we:=by
  rw[<-hwe];exact ((((Below.refl wd.heap.size wd).alloc L9 _).alloc (by simp) _).alloc (by simp only[World.size_alloc];omega) _).alloc (by simp only[World.size_alloc];omega) _
 have f1:bU we wd.heap.size 150 (O.length*2) (λ c=>if c%2=0 then .int .i64 0 else .slice none 0 0):=by
  show _=_
  rw[<-hwe,Below.heap_alloc _ _ _ (by simp only[World.size_alloc];omega),Below.heap_alloc _ _ _ (by simp only[World.size_alloc];omega),Below.heap_alloc _ _ _ (by simp),<-fCells_made2];exact heap_alloc_new wd _
 have f2:we.heap[wd.heap.size+1]?=some (.cells #[.slice (some ⟨wd.heap.size,0,none⟩) O.length O.length] 91 (0,0)):=by
  rw[<-hwe,Below.heap_alloc _ _ _ (by simp only[World.size_alloc];omega),Below.heap_alloc _ _ _ (by simp)];have:=heap_alloc_new (wd.alloc (.cells (madeCells #[.int .i64 0,.slice none 0 0] (O.length*2)) 150)) (.cells #[.slice (some ⟨wd.heap.size,0,none⟩) O.length O.length] 91);simpa only[World.size_alloc] using this
 have f3:bU we (wd.heap.size+1+1) 4 O.length (λ _=>.bool false):=by
  show _=_
  rw[<-hwe,Below.heap_alloc _ _ _ (by simp),<-fCells_made];have:=heap_alloc_new ((wd.alloc (.cells (madeCells #[.int .i64 0,.slice none 0 0] (O.length*2)) 150)).alloc (.cells #[.slice (some ⟨wd.heap.size,0,none⟩) O.length O.length] 91)) (.cells (madeCells #[.bool false] O.length) 4);simpa only[World.size_alloc] using this
 have f4:we.heap[wd.heap.size+1+1+1]?=some (.cells #[.slice (some ⟨wd.heap.size+1+1,0,none⟩) O.length O.length] 143 (0,0)):=by
  rw[<-hwe];have:=heap_alloc_new (((wd.alloc (.cells (madeCells #[.int .i64 0,.slice none 0 0] (O.length*2)) 150)).alloc (.cells #[.slice (some ⟨wd.heap.size,0,none⟩) O.length O.length] 91)).alloc (.cells (madeCells #[.bool false] O.length) 4)) (.cells #[.slice (some ⟨wd.heap.size+1+1,0,none⟩) O.length O.length] 143);simpa only[World.size_alloc] using this
 have se:we.heap.size=wd.heap.size+1+1+1+1:=by rw[<-hwe];simp
 clear hwe BQ uG C2;have Ci:=ad By;have xD:=(block_cells ((ke.block _ (by omega)).trans (ad xu)) 0).1;simp only[List.getElem?_toArray,List.getElem?_cons_zero] at xD;have HF:=hide (And.intro f1 (And.intro f2 (And.intro f3 (And.intro f4 se))));have Ea:=hide ke;clear f1 f2 f3 f4 se ke Ci;have jF:=hide (back_any we ao O.length co);go_wp2_with (go_at_call 68;refine (ad jF).mono ?_;rintro en wf ⟨rfl,Kh⟩);subst Kh;generalize bq:World.alloc we _=w1;have hF:=ad HF;have Ci:=ad By;have I0:=ad n9;have jJ:=ad fH;have k1:Below we.heap.size we w1:=by rw[<-bq];exact (Below.refl we.heap.size we).alloc L9 _
 have s1:w1.heap.size=wd.heap.size+1+1+1+1+1:=by rw[<-bq,World.size_alloc,hF.2.2.2.2]
 have GQ:w1.heap[we.heap.size]?=some (.cells #[.slice ao O.length co] 141 (0,0)):=by rw[<-bq];exact heap_alloc_new we _
 have AM:Below wd.heap.size wd w1:=(ad Ea).trans (k1.mono (ad Ea).size);have u7:Below wb.heap.size wb w1:=(ad Bc).trans (AM.mono (ad Bc).size);have zC:Below w0.heap.size w0 w1:=(ad lu).trans (u7.mono (ad lu).size);have mM:w1.ownsRow wb.heap.size 148 7 (.slice ao O.length co) O.length (O.flatMap bM):=own_below (ad iV) AM (λ g e=>((ad iV).lt g e).2);have DD:=(ad Bc).size;have DC:=(ad lu).size;have da:kF w ar cr rs asked kk ao co wb.heap.size wa.heap.size wc.heap.size wd.heap.size O w1:=
  ⟨(zC.block _ (by omega)).trans (ad Iu),(zC.block _ (by omega)).trans (ad Iv),(zC.block _ (by omega)).trans (ad Iw),(u7.block _ (by omega)).trans (ad Ix),(AM.block _ (by omega)).trans (ad xu),(k1.block _ (by omega)).trans hF.2.1,(k1.block _ (by omega)).trans hF.2.2.2.1,mM,(ad cq).trans (zC.mono (ad cq).size),by omega,by omega,by omega,λ g e=>((ad iV).lt g e).2,by omega⟩
 have F3:bu w ar cr rs asked kk ao co wb.heap.size wa.heap.size wc.heap.size wd.heap.size O (rea O) w1 (needs O kk asked (rea O) []) (doneB O kk asked (rea O) []) w1:=
  ⟨da,aR.refl _ _,(hF.2.2.1).block (k1.block _ (by omega)),⟨λ _=>.slice none 0 0,(hF.1.block (k1.block _ (by omega))).eq (λ i hi=>by simp[rcell,doneB]),λ i h=>by cases h⟩,by omega⟩
 have cT:=λ n=>back_stops (ONo wd.heap.size) n w1 we.heap.size wb.heap.size ao co O GQ mM (by unfold ONo;omega) (λ g e=>by have:=((ad iV).lt g e).2;unfold ONo;omega) (by omega)
 have Aa:=hide F3;have ni:=hide s1;clear bq hF Ci I0 jJ k1 GQ AM u7 zC mM DD DC da xD F3;refine (wpIn_wide (n:=5)).1 ?_;refine wpIn_rangeFunc_ownH (α:=Fin O.length) rfl (by omega) (gf:=107) (lb:=#[.pointer (some ⟨we.heap.size,0,none⟩)]) rfl trivial (enters_of Tryz.func107 (by kernel_rfl) rfl)
  (cT _) (λ h1 h2=>aR.trans h1 h2) (λ W l o o' _ hl hc hwk=>keep_putObj W l o o' hl hc hwk) B9 (λ _=>rfl)
  (λ (pre:List (Fin O.length)) (W:W8)=>bu w ar cr rs asked kk ao co wb.heap.size wa.heap.size wc.heap.size wd.heap.size O (rea O) w1 (needs O kk asked (rea O) pre) (doneB O kk asked (rea O) pre) W)
  (λ (_:Code) (_:List (Fin O.length)) (_:W8)=>False)
  (λ pre A B row hs hg hr=>hs.grown hg (λ i e=>hr i e))
  (λ c pre A B row hs hg hr=>hs)
  (ad Aa)
  (λ (x:Fin O.length) (a':Act) (W:W8)=>∃ Bx,w1.heap.size<=Bx/\PV W Bx O[x]/\a'={ tmps:=List.toArray ((Value.slice ar rs.length cr)::(Value.map (some tb))::(Value.map (some kb))::(Value.agg ct)::(Value.pointer (some ⟨w.heap.size,0,none⟩))::undef::undef::(Value.pointer (some ⟨w.heap.size+1,0,none⟩))::(Value.pointer (some ⟨w.heap.size+1+1,0,none⟩))::(Value.pointer (some ⟨wa.heap.size,0,none⟩))::(Value.pointer (some ⟨wc.heap.size,0,none⟩))::(Value.pointer (some ⟨wd.heap.size+1,0,none⟩))::(Value.pointer (some ⟨wd.heap.size+1+1+1,0,none⟩))::(Value.int .i64 (x.1:Nat))::(Value.pointer (some ⟨Bx,0,none⟩))::undef::undef::(Value.map (some tb))::(Value.map (some kb))::(thV asked)::(Value.int .i64 (kk:Nat))::(Value.map (some kb))::(Value.map (some tb))::(Value.slice ao O.length co)::(Value.slice ao O.length co)::(Value.int .i64 (O.length:Nat))::(Value.slice (some ⟨wd.heap.size,0,none⟩) O.length O.length)::(Value.slice ao O.length co)::(Value.int .i64 (O.length:Nat))::(Value.slice (some ⟨wd.heap.size+1+1,0,none⟩) O.length O.length)::(Value.slice ao O.length co)::(Value.func (.func 107) #[] #[.pointer (some ⟨we.heap.size,0,none⟩)])::(Value.int .i64 (x.1:Nat))::(Value.agg #[.string O[x].t.p,.string (nth4 O[x].t.ts 0),.string (nth4 O[x].t.ts 1),.string (nth4 O[x].t.ts 2),.string (nth4 O[x].t.ts 3),.int .i64 O[x].s,.int .i64 O[x].h])::List.replicate 44 undef),defers:=[] })
  (λ x a' _ A B row hs hg hr=>let ⟨Bx,h1,h2,h3⟩:=hs;⟨Bx,h1,h2.grown hg (λ i e=>(hr i e).2),h3⟩)
  ?assign ?body ?done (λ D c pre W _ _ h=>h.elim)
 case assign=>
  intro l pre x W K2 hI jI;have ky:=hide jI;have HI:=hide hI;have hz:w1.heap.size<=W.heap.size:=hI.kp.size;clear jI hI Aa cT;unfold plV bM
  gi_wp2
  exact ad ky _ _ ((KeepsOthers.alloc _ _).from _) ((aR.refl _ _).alloc _) ((ad HI).grown (World.grownBy_alloc W _ none) (λ _ e=>by cases e)) ⟨W.heap.size,hz,heap_alloc_new W _,rfl⟩
 case body=>
  rintro l pre x a' W CP-hI ⟨Bx,B3,AD,rfl⟩ -;clear cT Aa;have hx:=x.2;have I4:(x.1:Int)<O.length:=by omega
  have Gl:O[x.1]?=some O[x]:=List.getElem?_eq_getElem hx;have nL:eE ps O[x].t:=by
   obtain⟨q,hq,e⟩:=List.mem_map.1 ((ad lx).mem_iff.1 (List.getElem_mem hx))
   show eE ps O[x.1].t
   rw[<-e];exact ad HK q hq
  have j4:=(((ad qt) O (ad lx) (ad xh)).least x.1 hx);have j4:gx (numU O[x] O 0) rs O[x].t (rea O x.1).1 (rea O x.1).2:=j4;generalize O[x]=p at *;have c9:=(block_cells hI.box.y9 0).1;have np:=(block_cells hI.box.vd 0).1;simp only[List.getElem?_toArray,List.getElem?_cons_zero] at c9 np;have t7:(tLoad (.pointer (some ⟨w.heap.size+1,0,none⟩))).run Tryz.prog W=.ok (.agg #[.string asked.p,.string (nth4 asked.ts 0),.string (nth4 asked.ts 1),.string (nth4 asked.ts 2),.string (nth4 asked.ts 3)]) W:=hI.box.y7.load;have KI:=AD.loadT;have p5:=(block_cells AD 5).1;simp only[bM,List.getElem?_toArray,List.getElem?_cons_zero,List.getElem?_cons_succ] at p5;have nc:=hI.jD.cell hx;have nf:=hI.jD.fz x.1;obtain⟨be,iM⟩:∃ be,be=decide (p.t=asked):=⟨_,rfl⟩;have hs:∀ u:W8,(Op.equalIn 10000 88 (.agg #[.string p.t.p,.string (nth4 p.t.ts 0),.string (nth4 p.t.ts 1),.string (nth4 p.t.ts 2),.string (nth4 p.t.ts 3)]) (.agg #[.string asked.p,.string (nth4 asked.ts 0),.string (nth4 asked.ts 1),.string (nth4 asked.ts 2),.string (nth4 asked.ts 3)])).run Tryz.prog u=.ok be u:=λ u=>by
   rw[iM,<-eqTh nL.ok bX];exact eqTh0 u p.t.p (nth4 p.t.ts 0) (nth4 p.t.ts 1) (nth4 p.t.ts 2) (nth4 p.t.ts 3) asked.p (nth4 asked.ts 0) (nth4 asked.ts 1) (nth4 asked.ts 2) (nth4 asked.ts 3)
  have CA:∀ (u:W8) (xs ys:Array Value),(eqGuard .eql 88 (.tmp 40) (.tmp 41) (.agg xs) (.agg ys)).run Tryz.prog u=.ok () u:=λ u xs ys=>run_eqGuard_agg u _ _ _ _ _ _ (by kernel_rfl)
  have vi:=hide iM;clear iM;have HI:=hide hI;have z6:=hide AD;have xj:=hide nL;have Bf:=hide j4;have Iy:=hide Gl;clear hI AD nL j4 Gl
  have vu:=hide (show ∀ b:Bool,b=(decide (p.s<kk)||decide (p.t=asked))->need1 O kk asked (needs O kk asked (rea O) pre) x.1=if b then setB (needs O kk asked (rea O) pre) x.1 true else needs O kk asked (rea O) pre from by
   intro b hb;unfold need1 ownB;rw[ad Iy,hb]
   rfl)
  have yp:p.s<kk\/(¬ p.s<kk/\be=true)\/(¬ p.s<kk/\be=false):=by
   cases be <;> by_cases h:p.s<kk <;> simp[h]
  rcases yp with h1 | ⟨h1,h2⟩ | ⟨h1,h2⟩
  all_goals gi_upto_region 10 with fail
  have lH:=ad vu true (by simp[h1]);have ee:=(ad HI).own x.1;rw[if_pos rfl] at lH;rw[<-lH] at ee;have j3:=(dT.refl wd.heap.size W).set (j:=x.1) (.inr rfl) (.bool true);have lf:PV (W.setCell ⟨wd.heap.size+1+1,x.1,none⟩ (.bool true)) Bx p:=(Below.heap_setCell _ _ _ _ (by simp;omega)).trans (ad z6);generalize W.setCell ⟨wd.heap.size+1+1,x.1,none⟩ (.bool true)=W2 at *
  rotate_left
  have lH:=ad vu true (by rw[<-ad vi,h2];simp);have ee:=(ad HI).own x.1;rw[if_pos rfl] at lH;rw[<-lH] at ee;have j3:=(dT.refl wd.heap.size W).set (j:=x.1) (.inr rfl) (.bool true);have lf:PV (W.setCell ⟨wd.heap.size+1+1,x.1,none⟩ (.bool true)) Bx p:=(Below.heap_setCell _ _ _ _ (by simp;omega)).trans (ad z6);generalize W.setCell ⟨wd.heap.size+1+1,x.1,none⟩ (.bool true)=W2 at *
  rotate_left
  have lH:=ad vu false (by rw[<-ad vi,h2];simp[h1]);have ee:=ad HI;rw[if_neg (by simp)] at lH;rw[<-lH] at ee;have lf:=ad z6;obtain⟨W2,Ck⟩:∃ W2,W2=W:=⟨_,rfl⟩;have j3:dT wd.heap.size W W2:=by rw[Ck];exact dT.refl _ _
  rw[<-Ck] at ee lf ⊢;clear Ck
  rotate_left
  all_goals
   clear c9 np t7 KI p5 nc nf hs CA lH h1 vu vi;have o0:=needs_snoc O kk asked (rea O) pre x;have Fq:=done_snoc O kk asked (rea O) pre x;rw[needStep_eq] at o0;generalize need1 O kk asked (needs O kk asked (rea O) pre) x.1=B1 at *;have wF:=hide o0;have qv:=hide Fq;clear o0 Fq;have np:=(block_cells ee.box.vd 0).1;simp only[List.getElem?_toArray,List.getElem?_cons_zero] at np;have nc:=ee.jD.cell hx;have na:=hide ee;have tG:=hide lf;have tA:=hide j3;clear ee lf j3
   cases aT:B1 x.1 with
   | false=>
    rw[aT] at nc;have cR:=hide aT;clear aT
    gi_wp2
    have yz:=bu.ends (ad HI) (ad na) (ad tA);refine⟨yz.1,yz.2,?_⟩
    show bu w ar cr rs asked kk ao co wb.heap.size wa.heap.size wc.heap.size wd.heap.size O (rea O) w1 (needs O kk asked (rea O) (pre++[x])) (doneB O kk asked (rea O) (pre++[x])) W2
    rw[ad wF,ad qv,ad cR,if_neg (by simp),if_neg (by simp)];exact ad na
   | true=>
    rw[aT] at nc;have cR:=hide aT;clear aT
    gi_upto_region 11 with fail
    obtain⟨S',j2⟩:∃ S':W8->Prop,S'=λ V=>∀ i,i<W2.heap.size->i≠wd.heap.size->V.heap[i]?=W2.heap[i]?:=⟨_,rfl⟩
    have ee:=ad na;have uA:=(Array.getElem?_eq_some_iff.1 ee.box.vd).1;have Cr:=ee.box.l9;have yg:=ee.box.pR;have Cs:=ee.box.lD
    have dv:=hide (λ (V:W8) (hV:S' V)=>(show V.cell? ⟨wd.heap.size+1,0,none⟩=some (.slice (some ⟨wd.heap.size,0,none⟩) O.length O.length)/\V.cell? ⟨w.heap.size,0,none⟩=some (.slice ar rs.length cr)/\V.cell? ⟨wc.heap.size,0,none⟩=some (.slice ao O.length co)/\PV V Bx p from by
     rw[j2] at hV;have lf:=ad tG
     exact⟨(block_cells ((hV _ (by omega) (by omega)).trans ee.box.AR) 0).1,(block_cells ((hV _ (by omega) (by omega)).trans ee.box.y4) 0).1,(block_cells ((hV _ (by omega) (by omega)).trans ee.box.GU) 0).1,(hV _ lf.lt (by omega)).trans lf⟩))
    have tK:=hide (λ (V:W8) (hV:Below W2.heap.size W2 V)=>(show S' V from by rw[j2];exact λ i hi _=>hV.block i hi));have tL:=hide (λ (V:W8) (hV:S' V) (j:Nat) (v:Value)=>(show S' (V.setCell ⟨wd.heap.size,j,none⟩ v) from by rw[j2] at hV ⊢;exact λ i hi hn=>(Below.heap_setCell _ _ _ _ (by simpa using hn)).trans (hV i hi hn)))
    have Es:=hide (λ (V:W8) (hV:Below W2.heap.size W2 V)=>reason_any ps V base wb.heap.size ar ao cr co rs O p ((ad HR).below (ee.box.k.trans (hV.mono ee.box.k.size))) (own_below ee.box.ro hV (λ g e=>(ee.box.ro.lt g e).2)) (ad HG) (λ q hq=>by
     obtain⟨y,hy,e⟩:=List.mem_map.1 ((ad lx).mem_iff.1 hq);rw[<-e]
     exact ad HK y hy) (ad xj) (by
     have h3:(O.map (·.t)).Perm ((K.map (plOf S)).map (·.t)):=(ad lx).map _;refine h3.symm.nodup ?_;rw[List.map_map]
     exact nodup_of_map thText (by rw[List.map_map];exact ad ju)) (by omega))
    have jJ:=ad tK W2.drew B9.drew;clear j2 ee uA Cr yg Cs np nc;refine region_round S' (by kernel_rfl) (by kernel_rfl) (λ ⟨_,_,h⟩=>h) ?_;refine K9 0 (.slice (some ⟨wd.heap.size,0,none⟩) O.length O.length) rfl (Or.inl ⟨by rfl,λ V hV=>by obtain⟨m0,m1,m2,m3⟩:=ad dv V hV;go_simp⟩) jJ ?_;refine K9 1 (.int .i64 (x.1:Nat)) rfl (Or.inl ⟨by rfl,λ V _=>by go_simp⟩) jJ ?_;refine K9 2 (.slice ar rs.length cr) rfl (Or.inl ⟨by rfl,λ V hV=>by obtain⟨m0,m1,m2,m3⟩:=ad dv V hV;go_simp⟩) jJ ?_;refine K9 3 (.slice ao O.length co) rfl (Or.inl ⟨by rfl,λ V hV=>by obtain⟨m0,m1,m2,m3⟩:=ad dv V hV;go_simp⟩) jJ ?_;refine K9 4 (.agg #[.string p.t.p,.string (nth4 p.t.ts 0),.string (nth4 p.t.ts 1),.string (nth4 p.t.ts 2),.string (nth4 p.t.ts 3),.int .i64 p.s,.int .i64 p.h]) rfl (Or.inl ⟨by rfl,λ V hV=>by obtain⟨m0,m1,m2,m3⟩:=ad dv V hV;have n0:=(block_cells m3 0).1;have n1:=(block_cells m3 1).1;have n2:=(block_cells m3 2).1;have n3:=(block_cells m3 3).1;have n4:=(block_cells m3 4).1;have n5:=(block_cells m3 5).1;have n6:=(block_cells m3 6).1;simp only[bM,List.getElem?_toArray,List.getElem?_cons_zero,List.getElem?_cons_succ] at n0 n1 n2 n3 n4 n5 n6;go_simp⟩) jJ ?_;refine wpAnyH_ready (rs:=[5]) (by kernel_rfl) (by simp) ?_;refine AllReadyH.cons rfl (λ K hK=>?_) AllReadyH.nil
    go_simp
    refine (ad Es _ B9.drew).mono ?_;rintro en w4 ⟨bQ,i4,DM,a4,c4,rfl,mI,yM⟩;have hle:=ad Bf;have Jt:i4=(rea O x.1).1/\DM=(rea O x.1).2:=by
     rcases yM with h | h
     ·exact h.uniq hle
     ·have:=hle.mem;rw[h _ (List.getElem_mem hle.lt)] at this
      cases this
    obtain⟨rfl,rfl⟩:=Jt;have bY:=below_of_drew bQ;have iZ:=ad tK w4 bY;have eY:=(ad na).below bY;have mI:=aw (base':=w1.heap.size) mI (Nat.le_trans (ad HI).kp.size (ad tA).size);obtain⟨V4,f4,-⟩:=eY.nR;have GH:=f4.cell (i:=x.1*2) (by omega);have KG:=f4.cell (i:=x.1*2+1) (by omega);have GI:=f4.fz (x.1*2);have KH:=f4.fz (x.1*2+1);have oz:=hide ((ad tA).below bY);have nY:=hide eY;have Ej:=hide mI;refine hK.out _ _ iZ (λ _=>?_);clear hK K bQ yM hle eY mI f4;refine K9 6 (.pointer (some ⟨wd.heap.size,x.1*2,none⟩)) rfl (Or.inl ⟨by rfl,λ V _=>by go_simp⟩) iZ ?_;refine wpAnyH_ready (rs:=[7]) (by kernel_rfl) (by simp) ?_;refine AllReadyH.cons rfl (λ K hK=>?_) AllReadyH.nil
    go_simp
    refine hK.out _ _ (ad tL _ (ad tL _ iZ _ _) _ _) (λ _=>?_);clear hK K;refine wpAnyH_done (by kernel_rfl) ?_ _;have fX:=(ad nY).put x.1 hx (ad Ej);have jq:=((ad oz).set (b:=wd.heap.size) (j:=x.1*2) (.inl rfl) (.int .i64 ((rea O x.1).1:Nat))).set (b:=wd.heap.size) (j:=x.1*2+1) (.inl rfl) (.slice a4 (rea O x.1).2.length c4);have FL:=((ad qt) O (ad lx) (ad xh)).len x.1 hx;have sy:=((ad qt) O (ad lx) (ad xh)).low x.1 hx;clear GH KG GI KH nY Ej oz bY iZ jJ dv tK tL Es;generalize (w4.setCell ⟨wd.heap.size,x.1*2,none⟩ (.int .i64 ((rea O x.1).1:Nat))).setCell ⟨wd.heap.size,x.1*2+1,none⟩ (.slice a4 (rea O x.1).2.length c4)=w5 at fX jq ⊢;obtain⟨ri,FU,Jb⟩:=fX;have EI:=(block_cells ri.box.AR 0).1;simp only[List.getElem?_toArray,List.getElem?_cons_zero] at EI;generalize aE:(rea O x.1).2=row at *;have H0:=hide (show bu w ar cr rs asked kk ao co wb.heap.size wa.heap.size wc.heap.size wd.heap.size O (rea O) w1 (markFrom B1 (row.take 0)) (setB (doneB O kk asked (rea O) pre) x.1 true) w5/\w5.ownsRow w1.heap.size 3 1 (.slice a4 row.length c4) row.length (cO row)/\dT wd.heap.size W w5 from ⟨ri,FU,jq⟩);have Hm:=hide sy;clear ri FU jq sy
    gi_upto_region 13 with fail
    gi_loopg [65] row.length (λ gg i wr=>∃ k:Nat,k<=row.length/\gg=row.length-k/\i=.int .i64 k/\(bu w ar cr rs asked kk ao co wb.heap.size wa.heap.size wc.heap.size wd.heap.size O (rea O) w1 (markFrom B1 (row.take k)) (setB (doneB O kk asked (rea O) pre) x.1 true) wr/\wr.ownsRow w1.heap.size 3 1 (.slice a4 row.length c4) row.length (cO row)/\dT wd.heap.size W wr))
    exact⟨0,Nat.zero_le _,rfl,rfl,ad H0⟩
    case round=>
     clear H0 EI Jb;obtain⟨k,hk,fM,rfl,ak,qn,kg⟩:=hrel
     by_cases aN:k<row.length
     ·obtain⟨g,rfl,dp,hcg⟩:=numAt qn k aN;have np:=(block_cells ak.box.vd 0).1;simp only[List.getElem?_toArray,List.getElem?_cons_zero] at np;have hy:=ad Hm row[k] (List.getElem_mem aN);have Kr:((row[k]:Nat):Int)<O.length:=(by omega);have nc:=ak.jD.cell (i:=row[k]) (by omega);have nf:=ak.jD.fz row[k];have gW:(k:Int)<row.length:=(by omega);have bt:=hide ak;have Ab:=hide qn;have tz:=hide kg;clear ak qn kg
      gi_wp2
      gi_roundg (row.length-(k+1))
      case measure=>omega
      case rel=>
       refine⟨k+1,by omega,rfl,by go_num,?_,?_,(ad tz).set (.inr rfl) _⟩
       ·rw[markFrom_take aN];exact (ad bt).own row[k]
       ·exact own_block (ad Ab) (λ g e=>by have:=((ad Ab).lt g e).1;exact Below.heap_setCell _ _ _ _ (by simp;omega))
     ·have lX:k=row.length:=(by omega);subst lX;have gW:¬ ((row.length:Int)<row.length):=(by omega);have bt:=hide ak;have tz:=hide kg;clear ak qn kg s1
      gi_wp2
      have yz:=bu.ends (ad HI) (ad bt) (ad tz);refine⟨yz.1,yz.2,?_⟩
      show bu w ar cr rs asked kk ao co wb.heap.size wa.heap.size wc.heap.size wd.heap.size O (rea O) w1 (needs O kk asked (rea O) (pre++[x])) (doneB O kk asked (rea O) (pre++[x])) _
      rw[ad wF,ad qv,ad cR,if_pos rfl,if_pos rfl];have:=ad bt;rw[List.take_length] at this;exact this
 case done=>
  rintro D xs W hD Km hI eF;subst Km;have qh:O.length<=maxLen:=by unfold maxLen;omega
  have hA:=(ad qt) O (ad lx) (ad xh);obtain⟨aJ,lI,po,vO⟩:=hI.nodes qh;have Fp:=done_backs (k:=kk) (asked:=asked) hA.low O.length 0 (by omega);have yZ:aJ.map dX=nodesOf O.length (rea O) (needs O kk asked (rea O) (backs O.length 0)):=by
   rw[vO];unfold nodesOf;apply List.map_congr_left;intro i hi;rw[Fp i (List.mem_range.1 hi)];simp
  have sk:∀ y∈aJ,y.fr.length<=3/\∀ z∈y.fr,z<aJ.length:=by
   intro y hy;have:dX y∈aJ.map dX:=List.mem_map_of_mem hy;rw[vO] at this;obtain⟨i,hi,e⟩:=List.mem_map.1 this;have hi:=List.mem_range.1 hi;have e2:y.fr=(if doneB O kk asked (rea O) (backs O.length 0) i=true then rea O i else (0,[])).2:=(by rw[e];rfl);rw[e2]
   split
   ·exact⟨hA.len i hi,λ z hz=>by have:=hA.low i hi z hz;omega⟩
   ·exact⟨by simp,λ z hz=>by cases hz⟩
  have ng:=hide (λ (V:W8) (hV:Below W.heap.size W V)=>renum_any V wd.heap.size (wd.heap.size+1+1) (some ⟨wd.heap.size,0,none⟩) O.length aJ (needs O kk asked (rea O) (backs O.length 0)) (by rw[lI];exact po.below hV) (by rw[lI];exact hI.jD.below hV) (by omega) sk);rw[lI,yZ] at ng;have HI:=hide hI;have HD:=hide hD;have lO:=hide eF;have hk:=hI.kp.size;have hl9:=hI.box.l9;have JB:=hI.box.pR;have hlD:=hI.box.lD
  have HA:=hide (λ (V:W8) (hV:∀ i,i<W.heap.size->i≠w.heap.size+1+1->V.heap[i]?=W.heap[i]?)=>(show V.cell? ⟨wa.heap.size,0,none⟩=some (.int .i64 (kk:Nat))/\V.cell? ⟨wd.heap.size+1,0,none⟩=some (.slice (some ⟨wd.heap.size,0,none⟩) O.length O.length)/\V.cell? ⟨wd.heap.size+1+1+1,0,none⟩=some (.slice (some ⟨wd.heap.size+1+1,0,none⟩) O.length O.length) from
   ⟨(block_cells ((hV _ (by omega) (by omega)).trans hI.box.y9) 0).1,(block_cells ((hV _ (by omega) (by omega)).trans hI.box.AR) 0).1,(block_cells ((hV _ (by omega) (by omega)).trans hI.box.vd) 0).1⟩))
  have xI:=ad HA W.drew (λ i _ _=>rfl);have kj:w.heap.size+1+1<W.heap.size:=by omega
  clear hI hD eF po vO yZ sk Fp hA cT Aa s1;go_upto_region 17 with fail
  go_region_held3 (λ V=>V.cell? ⟨wa.heap.size,0,none⟩=some (.int .i64 (kk:Nat))/\V.cell? ⟨wd.heap.size+1,0,none⟩=some (.slice (some ⟨wd.heap.size,0,none⟩) O.length O.length)/\V.cell? ⟨wd.heap.size+1+1+1,0,none⟩=some (.slice (some ⟨wd.heap.size+1+1,0,none⟩) O.length O.length)) ((refine ad HA _ ?_;first | exact iZ | exact (λ i _ _=>rfl) | exact (λ i hi hn=>by rw[Below.heap_setCell _ _ _ _ (by simpa using hn),Below.heap_setCell _ _ _ _ (by simpa using hn)];exact iZ i hi hn))) ((go_at_call 70;refine (ad ng _ (by exact B9.drew)).mono ?_;rintro en w4 ⟨out,a4,c4,rfl,uJ,ql,bQ⟩;have bY:=below_of_drew bQ;have iZ:∀ i,i<W.heap.size->i≠w.heap.size+1+1->w4.heap[i]?=W.heap[i]?:=(λ i hi _=>bY.block i hi);obtain⟨r0,f0⟩:=block_cells ((bY.block _ kj).trans (ad HI).box.y8) 0;obtain⟨r1,f1⟩:=block_cells ((bY.block _ kj).trans (ad HI).box.y8) 1;simp only[List.getElem?_toArray,List.getElem?_cons_zero,List.getElem?_cons_succ] at r0 r1;have Hs:=hide uJ;have wY:=hide ql;clear uJ ql bQ))
  obtain⟨q0,q1⟩:=set2' r0 r1 (.int .i64 (kk:Nat)) (.slice a4 out.length c4);have gi:∀ i,i≠w.heap.size+1+1->((w4.setCell ⟨w.heap.size+1+1,0,none⟩ (.int .i64 (kk:Nat))).setCell ⟨w.heap.size+1+1,1,none⟩ (.slice a4 out.length c4)).heap[i]?=w4.heap[i]?:=λ i hi=>by rw[Below.heap_setCell _ _ _ _ (by simpa using hi),Below.heap_setCell _ _ _ _ (by simpa using hi)]
  go_wp2_with fail;refine leave_marks [D] _ (by simp) (λ E hE=>?_) (λ w' hs=>?_)
  ·rw[List.mem_singleton.1 hE];have h1:=ad lO;have h2:=ad HD;have h3:=ad ni;rw[gi D (by omega),bY.block D (Array.getElem?_eq_some_iff.1 h1).1];exact h1
  ·have h1:=ad lO;have h2:=ad HD;have h3:=ad ni;have hDl:=(Array.getElem?_eq_some_iff.1 h1).1;have hI:=ad HI;have q2:=(World.cell?_of_block (a:=⟨w.heap.size+1+1,0,none⟩) (hs.block (w.heap.size+1+1) (by simp;omega))).trans q0;have q3:=(World.cell?_of_block (a:=⟨w.heap.size+1+1,1,none⟩) (hs.block (w.heap.size+1+1) (by simp;omega))).trans q1;refine⟨.agg #[.int .i64 (kk:Nat),.slice a4 out.length c4],by simp[results,Tryz.results42,go_sem,q2,q3],?_⟩;have bq:=hI.box.k.size;have uJ:=ad Hs;have ja:∀ i,W.heap.size<=i->w'.heap[i]?=w4.heap[i]?:=λ i hi=>(hs.block i (by simp;omega)).trans (gi i (by omega))
   rw[ad vs];refine⟨O,ad lx,ad xh,out,a4,c4,rfl,⟨own_block (aw uJ.row bq) (λ g e=>ja g (uJ.row.lt g e).1),λ y hy=>own_block (aw (uJ.each y hy) bq) (λ g e=>ja g ((uJ.each y hy).lt g e).1)⟩,ad wY,?_⟩;exact⟨hs.os.trans (bY.os.trans hI.box.k.os),hs.tape.trans (bY.tape.trans hI.box.k.tape),hs.output.trans (bY.output.trans hI.box.k.output),by rw[hs.size];simpa using Nat.le_trans bq bY.size,λ i hi=>(hs.block i (by simp;omega)).trans ((gi i (by omega)).trans ((bY.block i (by omega)).trans (hI.box.k.block i hi)))⟩
end
end Go.Proofs.YtldkpahaocjdpaaGreat
