/-
  witness.Of: the witness that shows whether a thing follows.
-/
import Derived.Test.YtldkpahaocjdpaaGreatD40
set_option maxHeartbeats 16000000
set_option maxRecDepth 1000000
namespace Go.Proofs.YtldkpahaocjdpaaGreat
section
open Go.RowKit Go.Maps
attribute [local go_sem ↓] vU xY xX xW
attribute [local go_sem] Oper.semAt_some
attribute [local go_sem] vD vC
structure zki (ps:P9)(S:B8->Nat)(rs:List PR)(K:List (Th × Nat))(O:List Pl)(rea:Nat->Nat × List Nat):Prop where
 perm:O.Perm (K.map (zh9 S))
 least:∀ (i:Nat) (h:i<O.length),lT (zct O[i] O 0) rs O[i].t (rea i).1 (rea i).2
 len:∀ (i:Nat),i<O.length->(rea i).2.length<=3
 low:∀ (i:Nat),i<O.length->∀ x∈(rea i).2,x<i
def z9v (w:W8)(k:Nat)(ns:List (Nat × List Nat))(e:Ending)(w':W8):Prop:=
 ∃ (out:List ND) (a:O8) (c:Nat),e=.returned (.agg #[.int .i64 (k:Nat),.slice a out.length c])/\jT w' w.heap.size (.slice a out.length c) out/\out.map dX=ns/\Below w.heap.size w w'
theorem ybw (ps:P9)(w:W8)(base tb n kb:Nat)(ar:O8)(cr:Nat)(rs:List PR)(S:B8->Nat)(K:List (Th × Nat))(asked:Th)(rea:List Pl->Nat->Nat × List Nat)(hr:aD w base (.slice ar rs.length cr) rs)(ht:qS Tryz.prog 9 w tb n (stV ps S))(hm:jA w kb K)(hg:∀ r∈rs,jZ ps r)(hK:∀ p∈K,eE ps p.1)(hl:K.length<=50)(hS:∀ p:B8,(zZ ps p).isSome=true->S p<=1000000)(bX:zbj asked)(I2:S asked.1<=1000000)(dB:(K.map λ p=>yI p.1).Nodup)(yc:∀ O:List Pl,O.Perm (K.map (zh9 S))->(O.Pairwise λ p q=>vK p q=true)->zki ps S rs K O (rea O)):
  Calls Tryz.prog 42 #[.slice ar rs.length cr,.map (some tb),.map (some kb),thV asked] w λ e w'=>∃ O:List Pl,O.Perm (K.map (zh9 S))/\(O.Pairwise λ p q=>vK p q=true)/\z9v w (xP ps S K asked) (zd3 (zbc O (xP ps S K asked) asked (rea O) (zan O.length 0)) (zgy O.length (rea O) (zbc O (xP ps S K asked) asked (rea O) (zan O.length 0))) 0 (λ _=>0) []) e w':=by
 have fZ:=ht.lt;have ed:=hm.lt;have HR:=zC hr;have HT:=zC ht;have HM:=zC hm;have HG:=zC hg;have HK:=zC hK;have vx:=zC hS;have ju:=zC dB;have qt:=zC yc;have Ay:=vV hr.row;unfold maxLen at Ay;obtain⟨ct,eM⟩:∃ ct,ct=(zJ asked).toArray:=⟨_,rfl⟩;have fw:=zC eM;unfold thV;rw[<-eM];clear hr ht hm hg hK hS dB yc eM;refine callsIn_wide.1 (callsIn_of_wp_marks (F:=Fence.wide) (n:=5) Tryz.func42 rfl trivial (wpIn_wide.2 ?_) rfl);simp only[Tryz.ntmps42,List.size_toArray,List.length_cons,List.length_nil,Nat.reduceAdd,Nat.reduceSub,Array.replicate_succ,Array.replicate_zero,List.push_toArray,List.append_toArray,List.nil_append,List.cons_append];go_upto_region 1 with fail;generalize hw0:World.alloc (World.alloc (World.alloc w _) _) _=w0;have k0:Below w.heap.size w w0:=by
  rw[<-hw0];exact (((Below.refl w.heap.size w).alloc L9 _).alloc (by simp) _).alloc (by simp only[World.size_alloc];omega) _
 have x4:w0.heap[w.heap.size]?=some (.cells #[.slice ar rs.length cr] 75 (0,0)):=by
  rw[<-hw0,Below.heap_alloc _ _ _ (by simp only[World.size_alloc];omega),Below.heap_alloc _ _ _ (by simp)];exact heap_alloc_new w _
 have x7:TV w0 (w.heap.size+1) asked:=by
  rw[<-hw0,zA fw]
  show _=_
  rw[Below.heap_alloc _ _ _ (by simp)];have:=heap_alloc_new (w.alloc (.cells #[.slice ar rs.length cr] 75)) (.cells (zJ asked).toArray 88);rw[World.size_alloc] at this;exact this
 have x8:w0.heap[w.heap.size+1+1]?=some (.cells #[.int .i64 0,.slice none 0 0] 93 (0,0)):=by
  rw[<-hw0];have:=heap_alloc_new ((w.alloc (.cells #[.slice ar rs.length cr] 75)).alloc (.cells ct 88)) (.cells #[.int .i64 0,.slice none 0 0] 93);rw[World.size_alloc,World.size_alloc] at this;exact this
 have s0:w0.heap.size=w.heap.size+1+1+1:=by rw[<-hw0];simp
 clear hw0;have t3:=x7.load;have HW:=zC (z4o w0 tb n kb ps S K asked ((zA HT).block (k0.block tb fZ)) ((zA HM).block (k0.block kb ed)) bX I2);generalize hkk0:xP ps S K asked=kk at *;have vs:=zC hkk0;clear hkk0;have cq:=zC k0;have Iu:=zC x4;have Iv:=zC x7;have Iw:=zC x8;have fH:=zC s0;clear k0 x4 x7 x8 s0;go_upto_region 2 with (go_at_call 66;refine (zA HW).mono ?_;rintro en wa ⟨rfl,uf⟩;have rF:=zC uf;clear uf);generalize sT:World.alloc wa _=wb;have u7:Below w0.heap.size w0 wb:=by rw[<-sT];exact (zA rF).alloc (zA rF).size _
 have x9:wb.heap[wa.heap.size]?=some (.cells #[.int .i64 (kk:Nat)] 3 (0,0)):=by rw[<-sT];exact heap_alloc_new wa _
 have GK:wb.heap.size=wa.heap.size+1:=by rw[<-sT];simp
 have Gr:=(zA rF).size;clear sT t3;have kw:Below w.heap.size w wb:=(zA cq).trans (u7.mono (zA cq).size);have HO:=zC (z2i wb kb tb n ps S K ((zA HM).block (kw.block kb ed)) ((zA HT).block (kw.block tb fZ)) (by omega) (λ p hp=>z9j (zA HK p hp)) (λ p hp=>⟨by have:=(zA HK p hp).w.pd.le;omega,by rw[(zA HK p hp).num];rfl⟩) (zA ju));have lu:=zC u7;have Ix:=zC x9;have n9:=zC (And.intro GK Gr);clear u7 x9 GK Gr kw;go_upto_region 3 with (go_at_call 67;refine (zA HO).mono ?_;rintro en wc ⟨O,ao,co,rfl,dC,mO,aE,Fm⟩;have lx:=zC dC;have xh:=zC mO;have ly:=zC aE;have AX:=zC Fm;clear dC mO aE Fm);have Lo:O.length<=50:=by rw[(zA lx).length_eq,List.length_map];exact hl
 generalize hwd:World.alloc wc _=wd;have kd:Below wb.heap.size wb wd:=by rw[<-hwd];exact (zA AX).alloc (zA AX).size _
 have DS:wd.heap[wc.heap.size]?=some (.cells #[.slice ao O.length co] 141 (0,0)):=by rw[<-hwd];exact heap_alloc_new wc _
 have ro:wd.ownsRow wb.heap.size 148 7 (.slice ao O.length co) O.length (O.flatMap aB):=by rw[<-hwd];exact (zA ly).alloc _
 have sd:wd.heap.size=wc.heap.size+1:=by rw[<-hwd];simp
 have Gs:=(zA AX).size;have K6:=(zB DS 0).1;simp only[List.getElem?_toArray,List.getElem?_cons_zero] at K6;have Bc:=zC kd;have xu:=zC DS;have iV:=zC ro;have By:=zC (And.intro sd Gs);have uG:=zx8 O.length (by omega);have C2:=z6o O.length (by omega);clear hwd kd DS ro sd Gs;go_upto_region 4 with fail;have BQ:((wd.alloc (.cells (madeCells #[.int .i64 0,.slice none 0 0] (O.length*2)) 150)).alloc (.cells #[.slice (some ⟨wd.heap.size,0,none⟩) O.length O.length] 91)).cell? ⟨wc.heap.size,0,none⟩=some (.slice ao O.length co):=by
  have:=zA By;rw[World.cell?_of_block (w:=wd) (by rw[Below.heap_alloc _ _ wc.heap.size (by simp only[World.size_alloc];omega),Below.heap_alloc _ _ wc.heap.size (by omega)])];exact K6
 clear K6;go_upto_region 5 with fail;generalize hwe:World.alloc (World.alloc (World.alloc (World.alloc wd _) _) _) _=we;have ke:Below wd.heap.size wd we:=by
  rw[<-hwe];exact ((((Below.refl wd.heap.size wd).alloc L9 _).alloc (by simp) _).alloc (by simp only[World.size_alloc];omega) _).alloc (by simp only[World.size_alloc];omega) _
 have f1:aG we wd.heap.size 150 (O.length*2) (λ c=>if c%2=0 then .int .i64 0 else .slice none 0 0):=by
  show _=_
  rw[<-hwe,Below.heap_alloc _ _ _ (by simp only[World.size_alloc];omega),Below.heap_alloc _ _ _ (by simp only[World.size_alloc];omega),Below.heap_alloc _ _ _ (by simp),<-zq9];exact heap_alloc_new wd _
 have f2:we.heap[wd.heap.size+1]?=some (.cells #[.slice (some ⟨wd.heap.size,0,none⟩) O.length O.length] 91 (0,0)):=by
  rw[<-hwe,Below.heap_alloc _ _ _ (by simp only[World.size_alloc];omega),Below.heap_alloc _ _ _ (by simp)];have:=heap_alloc_new (wd.alloc (.cells (madeCells #[.int .i64 0,.slice none 0 0] (O.length*2)) 150)) (.cells #[.slice (some ⟨wd.heap.size,0,none⟩) O.length O.length] 91);simpa only[World.size_alloc] using this
 have f3:aG we (wd.heap.size+1+1) 4 O.length (λ _=>.bool false):=by
  show _=_
  rw[<-hwe,Below.heap_alloc _ _ _ (by simp),<-zk3];have:=heap_alloc_new ((wd.alloc (.cells (madeCells #[.int .i64 0,.slice none 0 0] (O.length*2)) 150)).alloc (.cells #[.slice (some ⟨wd.heap.size,0,none⟩) O.length O.length] 91)) (.cells (madeCells #[.bool false] O.length) 4);simpa only[World.size_alloc] using this
 have f4:we.heap[wd.heap.size+1+1+1]?=some (.cells #[.slice (some ⟨wd.heap.size+1+1,0,none⟩) O.length O.length] 143 (0,0)):=by
  rw[<-hwe];have:=heap_alloc_new (((wd.alloc (.cells (madeCells #[.int .i64 0,.slice none 0 0] (O.length*2)) 150)).alloc (.cells #[.slice (some ⟨wd.heap.size,0,none⟩) O.length O.length] 91)).alloc (.cells (madeCells #[.bool false] O.length) 4)) (.cells #[.slice (some ⟨wd.heap.size+1+1,0,none⟩) O.length O.length] 143);simpa only[World.size_alloc] using this
 have se:we.heap.size=wd.heap.size+1+1+1+1:=by rw[<-hwe];simp
 clear hwe BQ uG C2;have Ci:=zA By;have K7:=(zB ((ke.block _ (by omega)).trans (zA xu)) 0).1;simp only[List.getElem?_toArray,List.getElem?_cons_zero] at K7;have HF:=zC (And.intro f1 (And.intro f2 (And.intro f3 (And.intro f4 se))));have Ea:=zC ke;clear f1 f2 f3 f4 se ke Ci;have eS:=zC (z5s we ao O.length co);go_wp2_with (go_at_call 68;refine (zA eS).mono ?_;rintro en wf ⟨rfl,Kh⟩);subst Kh;generalize bq:World.alloc we _=w1;have hF:=zA HF;have Ci:=zA By;have I0:=zA n9;have bN:=zA fH;have k1:Below we.heap.size we w1:=by rw[<-bq];exact (Below.refl we.heap.size we).alloc L9 _
 have s1:w1.heap.size=wd.heap.size+1+1+1+1+1:=by rw[<-bq,World.size_alloc,hF.2.2.2.2]
 have GQ:w1.heap[we.heap.size]?=some (.cells #[.slice ao O.length co] 141 (0,0)):=by rw[<-bq];exact heap_alloc_new we _
 have AM:Below wd.heap.size wd w1:=(zA Ea).trans (k1.mono (zA Ea).size);have u7:Below wb.heap.size wb w1:=(zA Bc).trans (AM.mono (zA Bc).size);have L4:Below w0.heap.size w0 w1:=(zA lu).trans (u7.mono (zA lu).size);have mM:w1.ownsRow wb.heap.size 148 7 (.slice ao O.length co) O.length (O.flatMap aB):=zG (zA iV) AM (λ g e=>((zA iV).lt g e).2);have DD:=(zA Bc).size;have DC:=(zA lu).size;have da:nk w ar cr rs asked kk ao co wb.heap.size wa.heap.size wc.heap.size wd.heap.size O w1:=
  ⟨(L4.block _ (by omega)).trans (zA Iu),(L4.block _ (by omega)).trans (zA Iv),(L4.block _ (by omega)).trans (zA Iw),(u7.block _ (by omega)).trans (zA Ix),(AM.block _ (by omega)).trans (zA xu),(k1.block _ (by omega)).trans hF.2.1,(k1.block _ (by omega)).trans hF.2.2.2.1,mM,(zA cq).trans (L4.mono (zA cq).size),by omega,by omega,by omega,λ g e=>((zA iV).lt g e).2,by omega⟩
 have F3:jM w ar cr rs asked kk ao co wb.heap.size wa.heap.size wc.heap.size wd.heap.size O (rea O) w1 (zbc O kk asked (rea O) []) (zes O kk asked (rea O) []) w1:=
  ⟨da,jQ.refl _ _,(hF.2.2.1).block (k1.block _ (by omega)),⟨λ _=>.slice none 0 0,(hF.1.block (k1.block _ (by omega))).eq (λ i hi=>by simp[zyu,zes]),λ i h=>by cases h⟩,by omega⟩
 have cT:=λ n=>zxb (ONo wd.heap.size) n w1 we.heap.size wb.heap.size ao co O GQ mM (by unfold ONo;omega) (λ g e=>by have:=((zA iV).lt g e).2;unfold ONo;omega) (by omega)
 have Aa:=zC F3;have ni:=zC s1;clear bq hF Ci I0 bN k1 GQ AM u7 L4 mM DD DC da K7 F3;refine (wpIn_wide (n:=5)).1 ?_;refine wpIn_rangeFunc_ownH (α:=Fin O.length) rfl (by omega) (gf:=107) (lb:=#[.pointer (some ⟨we.heap.size,0,none⟩)]) rfl trivial (enters_of Tryz.func107 (by kernel_rfl) rfl)
  (cT _) (λ h1 h2=>jQ.trans h1 h2) (λ W l o o' _ hl hc hwk=>zds W l o o' hl hc hwk) B9 (λ _=>rfl)
  (λ (pre:List (Fin O.length)) (W:W8)=>jM w ar cr rs asked kk ao co wb.heap.size wa.heap.size wc.heap.size wd.heap.size O (rea O) w1 (zbc O kk asked (rea O) pre) (zes O kk asked (rea O) pre) W)
  (λ (_:Code) (_:List (Fin O.length)) (_:W8)=>False)
  (λ pre A B row hs hg hr=>hs.grown hg (λ i e=>hr i e))
  (λ c pre A B row hs hg hr=>hs)
  (zA Aa)
  (λ (x:Fin O.length) (a':Act) (W:W8)=>∃ Bx,w1.heap.size<=Bx/\PV W Bx O[x]/\a'={ tmps:=List.toArray ((Value.slice ar rs.length cr)::(Value.map (some tb))::(Value.map (some kb))::(Value.agg ct)::(Value.pointer (some ⟨w.heap.size,0,none⟩))::undef::undef::(Value.pointer (some ⟨w.heap.size+1,0,none⟩))::(Value.pointer (some ⟨w.heap.size+1+1,0,none⟩))::(Value.pointer (some ⟨wa.heap.size,0,none⟩))::(Value.pointer (some ⟨wc.heap.size,0,none⟩))::(Value.pointer (some ⟨wd.heap.size+1,0,none⟩))::(Value.pointer (some ⟨wd.heap.size+1+1+1,0,none⟩))::(Value.int .i64 (x.1:Nat))::(Value.pointer (some ⟨Bx,0,none⟩))::undef::undef::(Value.map (some tb))::(Value.map (some kb))::(thV asked)::(Value.int .i64 (kk:Nat))::(Value.map (some kb))::(Value.map (some tb))::(Value.slice ao O.length co)::(Value.slice ao O.length co)::(Value.int .i64 (O.length:Nat))::(Value.slice (some ⟨wd.heap.size,0,none⟩) O.length O.length)::(Value.slice ao O.length co)::(Value.int .i64 (O.length:Nat))::(Value.slice (some ⟨wd.heap.size+1+1,0,none⟩) O.length O.length)::(Value.slice ao O.length co)::(Value.func (.func 107) #[] #[.pointer (some ⟨we.heap.size,0,none⟩)])::(Value.int .i64 (x.1:Nat))::(Value.agg #[.string O[x].t.p,.string (xF O[x].t.ts 0),.string (xF O[x].t.ts 1),.string (xF O[x].t.ts 2),.string (xF O[x].t.ts 3),.int .i64 O[x].s,.int .i64 O[x].h])::List.replicate 44 undef),defers:=[] })
  (λ x a' _ A B row hs hg hr=>let ⟨Bx,h1,h2,h3⟩:=hs;⟨Bx,h1,h2.grown hg (λ i e=>(hr i e).2),h3⟩)
  ?assign ?body ?done (λ D c pre W _ _ h=>h.elim)
 case assign=>
  intro l pre x W K2 hI bM;have ky:=zC bM;have HI:=zC hI;have hz:w1.heap.size<=W.heap.size:=hI.kp.size;clear bM hI Aa cT;unfold plV aB
  gi_wp2
  exact zA ky _ _ ((KeepsOthers.alloc _ _).from _) ((jQ.refl _ _).alloc _) ((zA HI).grown (World.grownBy_alloc W _ none) (λ _ e=>by cases e)) ⟨W.heap.size,hz,heap_alloc_new W _,rfl⟩
 case body=>
  rintro l pre x a' W CP-hI ⟨Bx,B3,AD,rfl⟩ -;clear cT Aa;have hx:=x.2;have hxi:(x.1:Int)<O.length:=by omega
  have Gl:O[x.1]?=some O[x]:=List.getElem?_eq_getElem hx;have nL:eE ps O[x].t:=by
   obtain⟨q,hq,e⟩:=List.mem_map.1 ((zA lx).mem_iff.1 (List.getElem_mem hx))
   show eE ps O[x.1].t
   rw[<-e];exact zA HK q hq
  have cQ:=(((zA qt) O (zA lx) (zA xh)).least x.1 hx);have cQ:lT (zct O[x] O 0) rs O[x].t (rea O x.1).1 (rea O x.1).2:=cQ;generalize O[x]=p at *;have c9:=(zB hI.box.y9 0).1;have np:=(zB hI.box.vd 0).1;simp only[List.getElem?_toArray,List.getElem?_cons_zero] at c9 np;have t7:(zej (.pointer (some ⟨w.heap.size+1,0,none⟩))).run Tryz.prog W=.ok (.agg #[.string asked.p,.string (xF asked.ts 0),.string (xF asked.ts 1),.string (xF asked.ts 2),.string (xF asked.ts 3)]) W:=hI.box.y7.load;have KI:=AD.loadT;have p5:=(zB AD 5).1;simp only[aB,List.getElem?_toArray,List.getElem?_cons_zero,List.getElem?_cons_succ] at p5;have nc:=hI.bF.cell hx;have nf:=hI.bF.fz x.1;obtain⟨be,iM⟩:∃ be,be=decide (p.t=asked):=⟨_,rfl⟩;have hs:∀ u:W8,(Op.equalIn 10000 88 (.agg #[.string p.t.p,.string (xF p.t.ts 0),.string (xF p.t.ts 1),.string (xF p.t.ts 2),.string (xF p.t.ts 3)]) (.agg #[.string asked.p,.string (xF asked.ts 0),.string (xF asked.ts 1),.string (xF asked.ts 2),.string (xF asked.ts 3)])).run Tryz.prog u=.ok be u:=λ u=>by
   rw[iM,<-yex nL.ok bX];exact yd1 u p.t.p (xF p.t.ts 0) (xF p.t.ts 1) (xF p.t.ts 2) (xF p.t.ts 3) asked.p (xF asked.ts 0) (xF asked.ts 1) (xF asked.ts 2) (xF asked.ts 3)
  have CA:∀ (u:W8) (xs ys:Array Value),(eqGuard .eql 88 (.tmp 40) (.tmp 41) (.agg xs) (.agg ys)).run Tryz.prog u=.ok () u:=λ u xs ys=>run_eqGuard_agg u _ _ _ _ _ _ (by kernel_rfl)
  have vi:=zC iM;clear iM;have HI:=zC hI;have MB:=zC AD;have xj:=zC nL;have Bf:=zC cQ;have Iy:=zC Gl;clear hI AD nL cQ Gl
  have vu:=zC (show ∀ b:Bool,b=(decide (p.s<kk)||decide (p.t=asked))->zb2 O kk asked (zbc O kk asked (rea O) pre) x.1=if b then zf5 (zbc O kk asked (rea O) pre) x.1 true else zbc O kk asked (rea O) pre from by
   intro b hb;unfold zb2 z6z;rw[zA Iy,hb]
   rfl)
  have yp:p.s<kk\/(¬ p.s<kk/\be=true)\/(¬ p.s<kk/\be=false):=by
   cases be <;> by_cases h:p.s<kk <;> simp[h]
  rcases yp with h1 | ⟨h1,h2⟩ | ⟨h1,h2⟩
  all_goals gi_upto_region 10 with fail
  have lH:=zA vu true (by simp[h1]);have ee:=(zA HI).own x.1;rw[if_pos rfl] at lH;rw[<-lH] at ee;have cM:=(dY.refl wd.heap.size W).set (j:=x.1) (.inr rfl) (.bool true);have lf:PV (W.setCell ⟨wd.heap.size+1+1,x.1,none⟩ (.bool true)) Bx p:=(Below.heap_setCell _ _ _ _ (by simp;omega)).trans (zA MB);generalize W.setCell ⟨wd.heap.size+1+1,x.1,none⟩ (.bool true)=W2 at *
  rotate_left
  have lH:=zA vu true (by rw[<-zA vi,h2];simp);have ee:=(zA HI).own x.1;rw[if_pos rfl] at lH;rw[<-lH] at ee;have cM:=(dY.refl wd.heap.size W).set (j:=x.1) (.inr rfl) (.bool true);have lf:PV (W.setCell ⟨wd.heap.size+1+1,x.1,none⟩ (.bool true)) Bx p:=(Below.heap_setCell _ _ _ _ (by simp;omega)).trans (zA MB);generalize W.setCell ⟨wd.heap.size+1+1,x.1,none⟩ (.bool true)=W2 at *
  rotate_left
  have lH:=zA vu false (by rw[<-zA vi,h2];simp[h1]);have ee:=zA HI;rw[if_neg (by simp)] at lH;rw[<-lH] at ee;have lf:=zA MB;obtain⟨W2,Ck⟩:∃ W2,W2=W:=⟨_,rfl⟩;have cM:dY wd.heap.size W W2:=by rw[Ck];exact dY.refl _ _
  rw[<-Ck] at ee lf ⊢;clear Ck
  rotate_left
  all_goals
   clear c9 np t7 KI p5 nc nf hs CA lH h1 vu vi;have o0:=zis O kk asked (rea O) pre x;have Fq:=zq7 O kk asked (rea O) pre x;rw[zgx] at o0;generalize zb2 O kk asked (zbc O kk asked (rea O) pre) x.1=B1 at *;have wF:=zC o0;have qv:=zC Fq;clear o0 Fq;have np:=(zB ee.box.vd 0).1;simp only[List.getElem?_toArray,List.getElem?_cons_zero] at np;have nc:=ee.bF.cell hx;have na:=zC ee;have tG:=zC lf;have tA:=zC cM;clear ee lf cM
   cases aT:B1 x.1 with
   | false=>
    rw[aT] at nc;have cR:=zC aT;clear aT
    gi_wp2
    have yz:=jM.ends (zA HI) (zA na) (zA tA);refine⟨yz.1,yz.2,?_⟩
    show jM w ar cr rs asked kk ao co wb.heap.size wa.heap.size wc.heap.size wd.heap.size O (rea O) w1 (zbc O kk asked (rea O) (pre++[x])) (zes O kk asked (rea O) (pre++[x])) W2
    rw[zA wF,zA qv,zA cR,if_neg (by simp),if_neg (by simp)];exact zA na
   | true=>
    rw[aT] at nc;have cR:=zC aT;clear aT
    gi_upto_region 11 with fail
    obtain⟨S',cK⟩:∃ S':W8->Prop,S'=λ V=>∀ i,i<W2.heap.size->i≠wd.heap.size->V.heap[i]?=W2.heap[i]?:=⟨_,rfl⟩
    have ee:=zA na;have uA:=(Array.getElem?_eq_some_iff.1 ee.box.vd).1;have Cr:=ee.box.l9;have yg:=ee.box.pR;have Cs:=ee.box.lD
    have dv:=zC (λ (V:W8) (hV:S' V)=>(show V.cell? ⟨wd.heap.size+1,0,none⟩=some (.slice (some ⟨wd.heap.size,0,none⟩) O.length O.length)/\V.cell? ⟨w.heap.size,0,none⟩=some (.slice ar rs.length cr)/\V.cell? ⟨wc.heap.size,0,none⟩=some (.slice ao O.length co)/\PV V Bx p from by
     rw[cK] at hV;have lf:=zA tG
     exact⟨(zB ((hV _ (by omega) (by omega)).trans ee.box.AR) 0).1,(zB ((hV _ (by omega) (by omega)).trans ee.box.y4) 0).1,(zB ((hV _ (by omega) (by omega)).trans ee.box.GU) 0).1,(hV _ lf.lt (by omega)).trans lf⟩))
    have tK:=zC (λ (V:W8) (hV:Below W2.heap.size W2 V)=>(show S' V from by rw[cK];exact λ i hi _=>hV.block i hi));have tL:=zC (λ (V:W8) (hV:S' V) (j:Nat) (v:Value)=>(show S' (V.setCell ⟨wd.heap.size,j,none⟩ v) from by rw[cK] at hV ⊢;exact λ i hi hn=>(Below.heap_setCell _ _ _ _ (by simpa using hn)).trans (hV i hi hn)))
    have Es:=zC (λ (V:W8) (hV:Below W2.heap.size W2 V)=>zyv ps V base wb.heap.size ar ao cr co rs O p ((zA HR).below (ee.box.k.trans (hV.mono ee.box.k.size))) (zG ee.box.ro hV (λ g e=>(ee.box.ro.lt g e).2)) (zA HG) (λ q hq=>by
     obtain⟨y,hy,e⟩:=List.mem_map.1 ((zA lx).mem_iff.1 hq);rw[<-e]
     exact zA HK y hy) (zA xj) (by
     have h3:(O.map (·.t)).Perm ((K.map (zh9 S)).map (·.t)):=(zA lx).map _;refine h3.symm.nodup ?_;rw[List.map_map]
     exact zrw yI (by rw[List.map_map];exact zA ju)) (by omega))
    have bN:=zA tK W2.drew B9.drew;clear cK ee uA Cr yg Cs np nc;refine zfb S' (by kernel_rfl) (by kernel_rfl) (λ ⟨_,_,h⟩=>h) ?_;refine K9 0 (.slice (some ⟨wd.heap.size,0,none⟩) O.length O.length) rfl (Or.inl ⟨by rfl,λ V hV=>by obtain⟨m0,m1,m2,m3⟩:=zA dv V hV;go_simp⟩) bN ?_;refine K9 1 (.int .i64 (x.1:Nat)) rfl (Or.inl ⟨by rfl,λ V _=>by go_simp⟩) bN ?_;refine K9 2 (.slice ar rs.length cr) rfl (Or.inl ⟨by rfl,λ V hV=>by obtain⟨m0,m1,m2,m3⟩:=zA dv V hV;go_simp⟩) bN ?_;refine K9 3 (.slice ao O.length co) rfl (Or.inl ⟨by rfl,λ V hV=>by obtain⟨m0,m1,m2,m3⟩:=zA dv V hV;go_simp⟩) bN ?_;refine K9 4 (.agg #[.string p.t.p,.string (xF p.t.ts 0),.string (xF p.t.ts 1),.string (xF p.t.ts 2),.string (xF p.t.ts 3),.int .i64 p.s,.int .i64 p.h]) rfl (Or.inl ⟨by rfl,λ V hV=>by obtain⟨m0,m1,m2,m3⟩:=zA dv V hV;have n0:=(zB m3 0).1;have n1:=(zB m3 1).1;have n2:=(zB m3 2).1;have n3:=(zB m3 3).1;have n4:=(zB m3 4).1;have n5:=(zB m3 5).1;have n6:=(zB m3 6).1;simp only[aB,List.getElem?_toArray,List.getElem?_cons_zero,List.getElem?_cons_succ] at n0 n1 n2 n3 n4 n5 n6;go_simp⟩) bN ?_;refine wpAnyH_ready (rs:=[5]) (by kernel_rfl) (by simp) ?_;refine AllReadyH.cons rfl (λ K hK=>?_) AllReadyH.nil
    go_simp
    refine (zA Es _ B9.drew).mono ?_;rintro en w4 ⟨bQ,i4,DM,a4,c4,rfl,mI,LK⟩;have hle:=zA Bf;have Jt:i4=(rea O x.1).1/\DM=(rea O x.1).2:=by
     rcases LK with h | h
     ·exact h.uniq hle
     ·have:=hle.mem;rw[h _ (List.getElem_mem hle.lt)] at this
      cases this
    obtain⟨rfl,rfl⟩:=Jt;have bY:=zL bQ;have iZ:=zA tK w4 bY;have eY:=(zA na).below bY;have mI:=zI (base':=w1.heap.size) mI (Nat.le_trans (zA HI).kp.size (zA tA).size);obtain⟨V4,f4,-⟩:=eY.nR;have GH:=f4.cell (i:=x.1*2) (by omega);have KG:=f4.cell (i:=x.1*2+1) (by omega);have GI:=f4.fz (x.1*2);have KH:=f4.fz (x.1*2+1);have oz:=zC ((zA tA).below bY);have nY:=zC eY;have Ej:=zC mI;refine hK.out _ _ iZ (λ _=>?_);clear hK K bQ LK hle eY mI f4;refine K9 6 (.pointer (some ⟨wd.heap.size,x.1*2,none⟩)) rfl (Or.inl ⟨by rfl,λ V _=>by go_simp⟩) iZ ?_;refine wpAnyH_ready (rs:=[7]) (by kernel_rfl) (by simp) ?_;refine AllReadyH.cons rfl (λ K hK=>?_) AllReadyH.nil
    go_simp
    refine hK.out _ _ (zA tL _ (zA tL _ iZ _ _) _ _) (λ _=>?_);clear hK K;refine wpAnyH_done (by kernel_rfl) ?_ _;have fX:=(zA nY).put x.1 hx (zA Ej);have jq:=((zA oz).set (b:=wd.heap.size) (j:=x.1*2) (.inl rfl) (.int .i64 ((rea O x.1).1:Nat))).set (b:=wd.heap.size) (j:=x.1*2+1) (.inl rfl) (.slice a4 (rea O x.1).2.length c4);have FL:=((zA qt) O (zA lx) (zA xh)).len x.1 hx;have sy:=((zA qt) O (zA lx) (zA xh)).low x.1 hx;clear GH KG GI KH nY Ej oz bY iZ bN dv tK tL Es;generalize (w4.setCell ⟨wd.heap.size,x.1*2,none⟩ (.int .i64 ((rea O x.1).1:Nat))).setCell ⟨wd.heap.size,x.1*2+1,none⟩ (.slice a4 (rea O x.1).2.length c4)=w5 at fX jq ⊢;obtain⟨ri,FU,Jb⟩:=fX;have EI:=(zB ri.box.AR 0).1;simp only[List.getElem?_toArray,List.getElem?_cons_zero] at EI;generalize aE:(rea O x.1).2=row at *;have H0:=zC (show jM w ar cr rs asked kk ao co wb.heap.size wa.heap.size wc.heap.size wd.heap.size O (rea O) w1 (j9 B1 (row.take 0)) (zf5 (zes O kk asked (rea O) pre) x.1 true) w5/\w5.ownsRow w1.heap.size 3 1 (.slice a4 row.length c4) row.length (cO row)/\dY wd.heap.size W w5 from ⟨ri,FU,jq⟩);have Hm:=zC sy;clear ri FU jq sy
    gi_upto_region 13 with fail
    gi_loopg [65] row.length (λ gg i wr=>∃ k:Nat,k<=row.length/\gg=row.length-k/\i=.int .i64 k/\(jM w ar cr rs asked kk ao co wb.heap.size wa.heap.size wc.heap.size wd.heap.size O (rea O) w1 (j9 B1 (row.take k)) (zf5 (zes O kk asked (rea O) pre) x.1 true) wr/\wr.ownsRow w1.heap.size 3 1 (.slice a4 row.length c4) row.length (cO row)/\dY wd.heap.size W wr))
    exact⟨0,Nat.zero_le _,rfl,rfl,zA H0⟩
    case round=>
     clear H0 EI Jb;obtain⟨k,hk,fM,rfl,ak,qn,kg⟩:=hrel
     by_cases aN:k<row.length
     ·obtain⟨g,rfl,dp,hcg⟩:=z2d qn k aN;have np:=(zB ak.box.vd 0).1;simp only[List.getElem?_toArray,List.getElem?_cons_zero] at np;have hy:=zA Hm row[k] (List.getElem_mem aN);have Kr:((row[k]:Nat):Int)<O.length:=(by omega);have nc:=ak.bF.cell (i:=row[k]) (by omega);have nf:=ak.bF.fz row[k];have gW:(k:Int)<row.length:=(by omega);have bt:=zC ak;have Ab:=zC qn;have tz:=zC kg;clear ak qn kg
      gi_wp2
      gi_roundg (row.length-(k+1))
      case measure=>omega
      case rel=>
       refine⟨k+1,by omega,rfl,by go_num,?_,?_,(zA tz).set (.inr rfl) _⟩
       ·rw[zpm aN];exact (zA bt).own row[k]
       ·exact zP (zA Ab) (λ g e=>by have:=((zA Ab).lt g e).1;exact Below.heap_setCell _ _ _ _ (by simp;omega))
     ·have lX:k=row.length:=(by omega);subst lX;have gW:¬ ((row.length:Int)<row.length):=(by omega);have bt:=zC ak;have tz:=zC kg;clear ak qn kg s1
      gi_wp2
      have yz:=jM.ends (zA HI) (zA bt) (zA tz);refine⟨yz.1,yz.2,?_⟩
      show jM w ar cr rs asked kk ao co wb.heap.size wa.heap.size wc.heap.size wd.heap.size O (rea O) w1 (zbc O kk asked (rea O) (pre++[x])) (zes O kk asked (rea O) (pre++[x])) _
      rw[zA wF,zA qv,zA cR,if_pos rfl,if_pos rfl];have:=zA bt;rw[List.take_length] at this;exact this
 case done=>
  rintro D xs W hD Km hI eF;subst Km;have qh:O.length<=maxLen:=by unfold maxLen;omega
  have hA:=(zA qt) O (zA lx) (zA xh);obtain⟨aJ,lI,po,Ht⟩:=hI.nodes qh;have Fp:=zm9 (k:=kk) (asked:=asked) hA.low O.length 0 (by omega);have LW:aJ.map dX=zgy O.length (rea O) (zbc O kk asked (rea O) (zan O.length 0)):=by
   rw[Ht];unfold zgy;apply List.map_congr_left;intro i hi;rw[Fp i (List.mem_range.1 hi)];simp
  have sk:∀ y∈aJ,y.fr.length<=3/\∀ z∈y.fr,z<aJ.length:=by
   intro y hy;have:dX y∈aJ.map dX:=List.mem_map_of_mem hy;rw[Ht] at this;obtain⟨i,hi,e⟩:=List.mem_map.1 this;have hi:=List.mem_range.1 hi;have e2:y.fr=(if zes O kk asked (rea O) (zan O.length 0) i=true then rea O i else (0,[])).2:=(by rw[e];rfl);rw[e2]
   split
   ·exact⟨hA.len i hi,λ z hz=>by have:=hA.low i hi z hz;omega⟩
   ·exact⟨by simp,λ z hz=>by cases hz⟩
  have ng:=zC (λ (V:W8) (hV:Below W.heap.size W V)=>z3c V wd.heap.size (wd.heap.size+1+1) (some ⟨wd.heap.size,0,none⟩) O.length aJ (zbc O kk asked (rea O) (zan O.length 0)) (by rw[lI];exact po.below hV) (by rw[lI];exact hI.bF.below hV) (by omega) sk);rw[lI,LW] at ng;have HI:=zC hI;have HD:=zC hD;have lO:=zC eF;have hk:=hI.kp.size;have hl9:=hI.box.l9;have JB:=hI.box.pR;have hlD:=hI.box.lD
  have HA:=zC (λ (V:W8) (hV:∀ i,i<W.heap.size->i≠w.heap.size+1+1->V.heap[i]?=W.heap[i]?)=>(show V.cell? ⟨wa.heap.size,0,none⟩=some (.int .i64 (kk:Nat))/\V.cell? ⟨wd.heap.size+1,0,none⟩=some (.slice (some ⟨wd.heap.size,0,none⟩) O.length O.length)/\V.cell? ⟨wd.heap.size+1+1+1,0,none⟩=some (.slice (some ⟨wd.heap.size+1+1,0,none⟩) O.length O.length) from
   ⟨(zB ((hV _ (by omega) (by omega)).trans hI.box.y9) 0).1,(zB ((hV _ (by omega) (by omega)).trans hI.box.AR) 0).1,(zB ((hV _ (by omega) (by omega)).trans hI.box.vd) 0).1⟩))
  have Ld:=zA HA W.drew (λ i _ _=>rfl);have kj:w.heap.size+1+1<W.heap.size:=by omega
  clear hI hD eF po Ht LW sk Fp hA cT Aa s1;go_upto_region 17 with fail
  go_region_held3 (λ V=>V.cell? ⟨wa.heap.size,0,none⟩=some (.int .i64 (kk:Nat))/\V.cell? ⟨wd.heap.size+1,0,none⟩=some (.slice (some ⟨wd.heap.size,0,none⟩) O.length O.length)/\V.cell? ⟨wd.heap.size+1+1+1,0,none⟩=some (.slice (some ⟨wd.heap.size+1+1,0,none⟩) O.length O.length)) ((refine zA HA _ ?_;first | exact iZ | exact (λ i _ _=>rfl) | exact (λ i hi hn=>by rw[Below.heap_setCell _ _ _ _ (by simpa using hn),Below.heap_setCell _ _ _ _ (by simpa using hn)];exact iZ i hi hn))) ((go_at_call 70;refine (zA ng _ (by exact B9.drew)).mono ?_;rintro en w4 ⟨out,a4,c4,rfl,uJ,ql,bQ⟩;have bY:=zL bQ;have iZ:∀ i,i<W.heap.size->i≠w.heap.size+1+1->w4.heap[i]?=W.heap[i]?:=(λ i hi _=>bY.block i hi);obtain⟨r0,f0⟩:=zB ((bY.block _ kj).trans (zA HI).box.y8) 0;obtain⟨r1,f1⟩:=zB ((bY.block _ kj).trans (zA HI).box.y8) 1;simp only[List.getElem?_toArray,List.getElem?_cons_zero,List.getElem?_cons_succ] at r0 r1;have Hs:=zC uJ;have wY:=zC ql;clear uJ ql bQ))
  obtain⟨q0,q1⟩:=zj1 r0 r1 (.int .i64 (kk:Nat)) (.slice a4 out.length c4);have gi:∀ i,i≠w.heap.size+1+1->((w4.setCell ⟨w.heap.size+1+1,0,none⟩ (.int .i64 (kk:Nat))).setCell ⟨w.heap.size+1+1,1,none⟩ (.slice a4 out.length c4)).heap[i]?=w4.heap[i]?:=λ i hi=>by rw[Below.heap_setCell _ _ _ _ (by simpa using hi),Below.heap_setCell _ _ _ _ (by simpa using hi)]
  go_wp2_with fail;refine j4 [D] _ (by simp) (λ E hE=>?_) (λ w' hs=>?_)
  ·rw[List.mem_singleton.1 hE];have h1:=zA lO;have h2:=zA HD;have h3:=zA ni;rw[gi D (by omega),bY.block D (Array.getElem?_eq_some_iff.1 h1).1];exact h1
  ·have h1:=zA lO;have h2:=zA HD;have h3:=zA ni;have hDl:=(Array.getElem?_eq_some_iff.1 h1).1;have hI:=zA HI;have q2:=(World.cell?_of_block (a:=⟨w.heap.size+1+1,0,none⟩) (hs.block (w.heap.size+1+1) (by simp;omega))).trans q0;have q3:=(World.cell?_of_block (a:=⟨w.heap.size+1+1,1,none⟩) (hs.block (w.heap.size+1+1) (by simp;omega))).trans q1;refine⟨.agg #[.int .i64 (kk:Nat),.slice a4 out.length c4],by simp[results,Tryz.results42,go_sem,q2,q3],?_⟩;have bq:=hI.box.k.size;have uJ:=zA Hs;have ja:∀ i,W.heap.size<=i->w'.heap[i]?=w4.heap[i]?:=λ i hi=>(hs.block i (by simp;omega)).trans (gi i (by omega))
   rw[zA vs];refine⟨O,zA lx,zA xh,out,a4,c4,rfl,⟨zP (zI uJ.row bq) (λ g e=>ja g (uJ.row.lt g e).1),λ y hy=>zP (zI (uJ.each y hy) bq) (λ g e=>ja g ((uJ.each y hy).lt g e).1)⟩,zA wY,?_⟩;exact⟨hs.os.trans (bY.os.trans hI.box.k.os),hs.tape.trans (bY.tape.trans hI.box.k.tape),hs.output.trans (bY.output.trans hI.box.k.output),by rw[hs.size];simpa using Nat.le_trans bq bY.size,λ i hi=>(hs.block i (by simp;omega)).trans ((gi i (by omega)).trans ((bY.block i (by omega)).trans (hI.box.k.block i hi)))⟩
end
end Go.Proofs.YtldkpahaocjdpaaGreat
